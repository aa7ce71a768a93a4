import PyProof.Rows.All
import Wide.All
import OpenK.AllK
import Wide.FinOn
import Lean
import PyProof.EqAt
import PyProof.EqKinds
import PyProof.TupleCall
import PyProof.NeKinds
import KE.RegKIsAll
import KE.KTryMore
import KE.RegKTryMore
import PyProof.StationsW
import PyProof.Rows.CatchOwn
import OpenK.KOwn
import PyProof.NsDelKeeps
import PyProof.Rows.RuleN_isinstance
import KE.KMinBuiltin
import PyProof.WalkInts
import PyProof.Rows.CallKwBuiltin
import KE.KListMore
import PyProof.ListRange
import PyProof.RangeFor
import PyProof.CompFree
import PySem.Challenge.RW_nightglass_k06_sayings_that_agree
set_option Elab.async false
set_option linter.all false
set_option maxRecDepth 100000
namespace L2
open PySem PySem.Spec PyProof.Rows
/-- a key: an int or a str -/
abbrev Key := Sum Int Str
def keyIs : Key → Value → Bool
  | .inl k, v => Value.isInt k v
  | .inr x, v => Value.isStrOf x v
def keyH (w : World) : Key → Int
  | .inl k => hashInt k
  | .inr x => hashStr w x
theorem keyIs_shape : ∀ {k : Key} {v : Value}, keyIs k v = true → (∃ i t, k = Sum.inl i ∧ v = Value.int i t) ∨ (∃ x t, k = Sum.inr x ∧ v = Value.str x t)
  | .inl i, v, h => by
    obtain ⟨t, e⟩ := Value.isInt_shape (k := i) (v := v) h
    exact .inl ⟨i, t, rfl, e⟩
  | .inr x, v, h => by
    obtain ⟨t, e⟩ := Value.isStrOf_shape (x := x) (v := v) h
    exact .inr ⟨x, t, rfl, e⟩
theorem keyIs_int (i : Int) (t : Tok) : keyIs (.inl i) (.int i t) = true := by simp [keyIs, Value.isInt]
theorem keyIs_str (x : Str) (t : Tok) : keyIs (.inr x) (.str x t) = true := by simp [keyIs, Value.isStrOf]
theorem key_ll (a b : Int) : decide ((Sum.inl a : Key) = Sum.inl b) = (a == b) := by
  by_cases e : a = b
  · subst e; simp
  · have h : ¬ (Sum.inl a : Key) = Sum.inl b := fun q => e (Sum.inl.inj q)
    rw [decide_eq_false h]
    exact (beq_eq_false_iff_ne.mpr e).symm
theorem key_rr (a b : Str) : decide ((Sum.inr a : Key) = Sum.inr b) = decide (a = b) := by
  by_cases e : a = b
  · subst e; simp
  · have h : ¬ (Sum.inr a : Key) = Sum.inr b := fun q => e (Sum.inr.inj q)
    rw [decide_eq_false h, decide_eq_false e]
theorem key_lr (a : Int) (b : Str) : decide ((Sum.inl a : Key) = Sum.inr b) = false := decide_eq_false (fun q => nomatch q)
theorem key_rl (a : Str) (b : Int) : decide ((Sum.inr a : Key) = Sum.inl b) = false := decide_eq_false (fun q => nomatch q)

def mixKind (prog : Program) (w : World) : PySem.KeyKind prog w Key where
  is := keyIs
  hash := keyH w
  inj := fun v a b ha hb => by
    rcases keyIs_shape ha with ⟨i, t, rfl, rfl⟩ | ⟨x, t, rfl, rfl⟩
    · rcases keyIs_shape hb with ⟨j, u, rfl, e⟩ | ⟨y, u, rfl, e⟩
      · injection e with e1 _; rw [e1]
      · exact nomatch e
    · rcases keyIs_shape hb with ⟨j, u, rfl, e⟩ | ⟨y, u, rfl, e⟩
      · exact nomatch e
      · injection e with e1 _; rw [e1]
  byValue := fun k v h => by
    rcases keyIs_shape h with ⟨i, t, rfl, rfl⟩ | ⟨x, t, rfl, rfl⟩ <;> rfl
  pyHash := fun hv h => by
    rcases keyIs_shape hv with ⟨i, t, rfl, rfl⟩ | ⟨x, t, rfl, rfl⟩
    · exact wpAny_pyHash_int h
    · exact wpAny_pyHash_str h
  eqBool := fun hu hv h => by
    rcases keyIs_shape hu with ⟨i, t, rfl, rfl⟩ | ⟨x, t, rfl, rfl⟩
    · rcases keyIs_shape hv with ⟨j, u, rfl, rfl⟩ | ⟨y, u, rfl, rfl⟩
      · rw [key_ll] at h; exact wpAny_eqBool_int h
      · rw [key_lr] at h; exact SeqAt.EqAt.int_str i t y u _ _ _ _ h
    · rcases keyIs_shape hv with ⟨j, u, rfl, rfl⟩ | ⟨y, u, rfl, rfl⟩
      · rw [key_rl] at h; exact SeqAt.EqAt.str_int x t j u _ _ _ _ h
      · rw [key_rr] at h; exact wpAny_eqBool_str h
  «strs» := fun k x t v h => by
    rcases keyIs_shape h with ⟨i, u, rfl, e⟩ | ⟨y, u, rfl, e⟩
    · exact nomatch e
    · injection e with e1 _
      subst e1
      cases v <;> rfl

theorem mixKind_int (prog : Program) (w : World) (i : Int) (t : Tok) : (mixKind prog w).is (.inl i) (.int i t) = true := keyIs_int i t
theorem mixKind_str (prog : Program) (w : World) (x : Str) (t : Tok) : (mixKind prog w).is (.inr x) (.str x t) = true := keyIs_str x t
end L2
namespace L2
open PySem PySem.Spec PyProof.Rows
/-- a value, without the heap -/
inductive V where
  | non | bl (b : Bool) | int (i : Int) | str (x : Str) | byt (b : Array UInt8) | flt (b : UInt64) | ref (a : Addr) | ty (n : String)
  deriving DecidableEq

def RelV : V → Value → Prop
  | .non, u => u = Value.none
  | .bl b, u => u = Value.bool b
  | .int i, u => ∃ t, u = Value.int i t
  | .str x, u => ∃ t, u = Value.str x t
  | .byt b, u => ∃ t, u = Value.bytes b t
  | .flt b, u => ∃ t, u = Value.float b t
  | .ref a, u => u = Value.ref a
  | .ty n, u => u = Value.type n

abbrev Vals : List V → List Value → Prop := Paired RelV
theorem Vals.length {xs : List V} {us : List Value} (r : Vals xs us) : xs.length = us.length := Paired.length r
theorem Vals.get : ∀ {xs : List V} {us : List Value} {i : Nat} {x : V}, Vals xs us → xs[i]? = some x → ∃ u, us[i]? = some u ∧ RelV x u
  | _, _, _, _, .nil, e => by simp at e
  | _, _, 0, _, .cons r _, e => by simp at e; subst e; exact ⟨_, rfl, r⟩
  | _, _, i + 1, x, .cons _ t, e => by
    obtain ⟨u, h1, h2⟩ := Vals.get (i := i) (x := x) t (by simpa using e)
    exact ⟨u, by simpa using h1, h2⟩
theorem Vals.set {x : V} {u : Value} (r : RelV x u) : ∀ {xs : List V} {us : List Value} (i : Nat), Vals xs us → Vals (xs.set i x) (us.set i u)
  | _, _, _, .nil => .nil
  | _, _, 0, .cons _ t => .cons r t
  | _, _, i + 1, .cons q t => .cons q (Vals.set r i t)
theorem Vals.append : ∀ {xs ys : List V} {us ws : List Value}, Vals xs us → Vals ys ws → Vals (xs ++ ys) (us ++ ws)
  | _, _, _, _, .nil, s => s
  | _, _, _, _, .cons r t, s => .cons r (Vals.append t s)
theorem Vals.take : ∀ {xs : List V} {us : List Value} (n : Nat), Vals xs us → Vals (xs.take n) (us.take n)
  | _, _, 0, _ => .nil
  | _, _, _ + 1, .nil => .nil
  | _, _, n + 1, .cons r t => .cons r (Vals.take n t)
theorem Vals.drop : ∀ {xs : List V} {us : List Value} (n : Nat), Vals xs us → Vals (xs.drop n) (us.drop n)
  | _, _, 0, r => r
  | _, _, _ + 1, .nil => .nil
  | _, _, n + 1, .cons _ t => Vals.drop n t
def RelO : Option V → Option Value → Prop
  | some v, some u => RelV v u
  | none, none => True
  | _, _ => False
def KV {κ : Type} : List (κ × V) → List (κ × Value) → Prop := Paired fun (p : κ × V) (q : κ × Value) => p.1 = q.1 ∧ RelV p.2 q.2

/-- a key of a dict (00_mix): an int or a text -/
def kV : Key → V
  | .inl i => .int i
  | .inr x => .str x

/-- what stands at a tracked address -/
inductive HO where
  /-- a list -/
  | lst (xs : List V)
  /-- a tuple (never changes) -/
  | tup (xs : List V)
  /-- a dict whose keys are ints and texts; one whose keys are tuples of ints and texts (the empty one is both) -/
  | dK (kvs : List (Key × V)) | dT (kvs : List (List Key × V))
  /-- a set of ints: its members, its size -/
  | set (S : Int → Bool) (n : Nat)
  /-- an instance of the class at C, its dict at dx, its attributes -/
  | ins (C dx : Addr) (fs : List (Str × V))
  /-- the dict of the instance at x -/
  | own (x : Addr)
  /-- the dict of an exception -/
  | xd (fs : List (Str × V))
  /-- a bound method, f of x -/
  | met (f x : Addr)
  /-- a range object lo, lo + 1, .. below hi -/
  | rng (lo hi : Int)
  /-- a thing that is known to the object (the script; a dict while a loop walks it): read, never written while it is so -/
  | frz (o : Obj) (u : HO)
  /-- a code object's table -/
  | tbl (ps : Array Value)
  /-- any other thing, by what is true of its one object (a def of one's own: SetO a S n := HO.ext fun h => ..) -/
  | ext (φ : Heap → Prop)

abbrev Hp := Addr → Option HO
def upd (H : Hp) (a : Addr) (o : HO) : Hp := fun b => if b = a then some o else H b
theorem upd_same {H : Hp} {a : Addr} {o : HO} : upd H a o a = some o := by unfold upd; rw [if_pos rfl]
theorem upd_ne {H : Hp} {a b : Addr} {o : HO} (h : b ≠ a) : upd H a o b = H b := by unfold upd; rw [if_neg h]
/-- two objects of different content stand apart -/
theorem ne_of {H : Hp} {a b : Addr} {o u : HO} (h : H a = some o) (h' : H b = some u) (d : o ≠ u) : a ≠ b := by
  intro e; subst e; rw [h] at h'; exact d (Option.some.inj h')
theorem ne_of_none {H : Hp} {a b : Addr} {o : HO} (h : H a = some o) (h' : H b = none) : a ≠ b := by
  intro e; subst e; rw [h] at h'; cases h'

section
variable (P : Program) (w : World)
def ObjOk (H : Hp) (h : Heap) (a : Addr) : HO → Prop
  | .lst xs => xs.length ≤ sizeLine ∧ ∃ (its : List Value) (n : Nat), Vals xs its ∧ h.get? a = some { cls := .type "list", data := .seq its.toArray n }
  | .tup xs => xs.length ≤ sizeLine ∧ ∃ its : List Value, Vals xs its ∧ IsTup h a its.toArray
  | .dK kvs => kvs.length ≤ sizeLine ∧ (a == sysModules) = false ∧ ∃ vs, KV kvs vs ∧ h.DictOf (mixKind P w) a vs
  | .dT kvs => kvs.length ≤ sizeLine ∧ (a == sysModules) = false ∧ ∃ xs : List (List Key × Addr × Value),
      Paired (fun (p : List Key × V) (q : List Key × Addr × Value) => p.1 = q.1 ∧ H q.2.1 = some (.tup (p.1.map kV)) ∧ RelV p.2 q.2.2) kvs xs ∧
      ∃ o es ep, h.get? a = some o ∧ o.ExactDict ∧ o.data = .dict es ep ∧ es.toList = xs.map (entryOfKey (tupleKind (mixKind P w))) ∧ (xs.map (·.1)).Nodup
  | .set S n => h.SetOf (intKind P w) a S n
  | .ins C dx fs => H dx = some (.own a) ∧ fs.length ≤ 1000 ∧ dx ≠ a ∧ h.get? a = some (PySem.W.instObj C dx) ∧
      ∃ mA, h.Ns1 dx mA ∧ (∀ f, RelO (fs.lookup f) (mA f)) ∧ PySem.Within mA (fs.map (·.1))
  | .own _ => ∃ o, h.get? a = some o
  | .xd fs => ∃ mA, h.Ns1 a mA ∧ ∀ f, RelO (fs.lookup f) (mA f)
  | .rng lo hi => ∃ t u v, h.get? a = some { cls := .type "range", data := .fields #[.int lo t, .int hi u, .int 1 v] }
  | .frz o u => h.get? a = some o ∧ ObjOk H h a u
  | .tbl ps => h.get? a = some { cls := .none, data := .fields ps }
  | .met f x => h.get? a = some (PySem.W.methodObj (.ref f) (.ref x))
  | .ext φ => φ h ∧ (∃ o, h.get? a = some o) ∧ ∀ h1 h2 : Heap, φ h1 → (∀ o, h1.get? a = some o → h2.get? a = some o) → φ h2
/-- the abstract heap is held -/
def HOk (H : Hp) (h : Heap) : Prop := ∀ a o, H a = some o → ObjOk P w H h a o
end
section
variable {P : Program} {w : World} {H H' : Hp} {h h' : Heap} {a : Addr} {o : HO}
theorem ObjOk.lt (x : ObjOk P w H h a o) : a < h.objs.size := by
  cases o with
  | lst xs => obtain ⟨_, _, _, _, e⟩ := x; exact Heap.lt_size e
  | tup xs => obtain ⟨_, _, _, p⟩ := x; exact p.lt
  | dK kvs => obtain ⟨_, _, _, _, o, _, _, e, _⟩ := x; exact Heap.lt_size e
  | dT kvs => obtain ⟨_, _, _, _, o, _, _, e, _⟩ := x; exact Heap.lt_size e
  | set S n => obtain ⟨o, _, _, _, e, _⟩ := x; exact Heap.lt_size e
  | ins C dx fs => obtain ⟨_, _, _, e, _⟩ := x; exact Heap.lt_size e
  | own y => obtain ⟨_, e⟩ := x; exact Heap.lt_size e
  | xd fs => obtain ⟨_, ⟨_, _, _, e, _⟩, _⟩ := x; exact Heap.lt_size e
  | rng lo hi => obtain ⟨_, _, _, e⟩ := x; exact Heap.lt_size e
  | frz ob u => obtain ⟨e, _⟩ := x; exact Heap.lt_size e
  | tbl ps => exact Heap.lt_size (show h.get? a = some _ from x)
  | met f y => exact Heap.lt_size (show h.get? a = some _ from x)
  | ext φ => obtain ⟨_, ⟨_, e⟩, _⟩ := x; exact Heap.lt_size e
theorem Paired.mapP {α β : Type} {F G : α → β → Prop} : ∀ {l₁ : List α} {l₂ : List β}, Paired F l₁ l₂ → (∀ a b, F a b → G a b) → Paired G l₁ l₂
  | _, _, .nil, _ => .nil
  | _, _, .cons r t, f => .cons (f _ _ r) (Paired.mapP t f)
/-- what an object's description leans on: its own object, its own dict, the tuples -/
theorem ObjOk.stay (x : ObjOk P w H h a o) (k : ∀ b u, (b = a ∨ H b = some (.own a)) → h.get? b = some u → h'.get? b = some u)
    (ho : ∀ b, H b = some (.own a) → H' b = some (.own a)) (ht : ∀ b xs, H b = some (.tup xs) → H' b = some (.tup xs)) : ObjOk P w H' h' a o := by
  induction o with
  | lst xs => obtain ⟨z, its, n, r, e⟩ := x; exact ⟨z, its, n, r, k _ _ (.inl rfl) e⟩
  | tup xs => obtain ⟨z, its, r, ob, e, c⟩ := x; exact ⟨z, its, r, ob, k _ _ (.inl rfl) e, c⟩
  | dK kvs => obtain ⟨z, y, vs, r, ob, es, ep, e, c⟩ := x; exact ⟨z, y, vs, r, ob, es, ep, k _ _ (.inl rfl) e, c⟩
  | dT kvs =>
    obtain ⟨z, y, xs, r, ob, es, ep, e, c⟩ := x
    exact ⟨z, y, xs, Paired.mapP r fun p q z => ⟨z.1, ht _ _ z.2.1, z.2.2⟩, ob, es, ep, k _ _ (.inl rfl) e, c⟩
  | set S n => obtain ⟨ob, es, ep, t, e, c⟩ := x; exact ⟨ob, es, ep, t, k _ _ (.inl rfl) e, c⟩
  | ins C dx fs =>
    obtain ⟨d, z, ne, e, mA, ⟨od, es, ep, e2, c⟩, r⟩ := x
    exact ⟨ho _ d, z, ne, k _ _ (.inl rfl) e, mA, ⟨od, es, ep, k _ _ (.inr d) e2, c⟩, r⟩
  | own y => obtain ⟨ob, e⟩ := x; exact ⟨ob, k _ _ (.inl rfl) e⟩
  | xd fs => obtain ⟨mA, ⟨od, es, ep, e, c⟩, r⟩ := x; exact ⟨mA, ⟨od, es, ep, k _ _ (.inl rfl) e, c⟩, r⟩
  | rng lo hi => obtain ⟨t, u, v, e⟩ := x; exact ⟨t, u, v, k _ _ (.inl rfl) e⟩
  | frz ob u ih => obtain ⟨e, q⟩ := x; exact ⟨k _ _ (.inl rfl) e, ih q⟩
  | tbl ps =>
    have e : h.get? a = some { cls := .none, data := .fields ps } := x
    show h'.get? a = some { cls := .none, data := .fields ps }
    exact k a _ (.inl rfl) e
  | met f y =>
    have e : h.get? a = some (PySem.W.methodObj (.ref f) (.ref y)) := x
    show h'.get? a = some (PySem.W.methodObj (.ref f) (.ref y))
    exact k a _ (.inl rfl) e
  | ext φ => obtain ⟨p, ⟨o, e⟩, st⟩ := x; exact ⟨st _ _ p fun o q => k _ _ (.inl rfl) q, ⟨o, k _ _ (.inl rfl) e⟩, st⟩
theorem HOk.lt (x : HOk P w H h) (e : H a = some o) : a < h.objs.size := (x a o e).lt
theorem HOk.fresh (x : HOk P w H h) (e : h.objs.size ≤ a) : H a = none := by
  cases q : H a with
  | none => rfl
  | some u => exact absurd (Nat.lt_of_lt_of_le (x.lt q) e) (Nat.lt_irrefl _)
/-- every object of the heap is kept -/
theorem HOk.kept (x : HOk P w H h) (k : ∀ b u, h.get? b = some u → h'.get? b = some u) : HOk P w H h' := fun a o e =>
  (x a o e).stay (fun b u _ q => k b u q) (fun _ q => q) fun _ _ q => q
/-- a new object is laid and tracked -/
theorem HOk.laid (x : HOk P w H h) (k : ∀ b u, h.get? b = some u → h'.get? b = some u) (hp : h.objs.size ≤ a) (new : ObjOk P w (upd H a o) h' a o) : HOk P w (upd H a o) h' := fun b u e => by
  have hn := x.fresh hp
  by_cases hb : b = a
  · subst hb; rw [upd_same] at e; cases e; exact new
  · rw [upd_ne hb] at e
    exact (x b u e).stay (fun c v _ q => k c v q) (fun c q => by rw [upd_ne (ne_of_none q hn)]; exact q) fun c xs q => by rw [upd_ne (ne_of_none q hn)]; exact q
end
/-- what may be read as u: it is u, or a known u -/
def Rd (H : Hp) (a : Addr) (u : HO) : Prop := H a = some u ∨ ∃ o, H a = some (.frz o u)
theorem Rd.of {H : Hp} {a : Addr} {u : HO} (h : H a = some u) : Rd H a u := .inl h
theorem Rd.ok {P : Program} {w : World} {H : Hp} {h : Heap} {a : Addr} {u : HO} (r : Rd H a u) (x : HOk P w H h) : ObjOk P w H h a u := by
  rcases r with r | ⟨o, r⟩
  · exact x a u r
  · obtain ⟨_, q⟩ := x a _ r
    exact q
/-- what may be written -/
def Mut : Option HO → Prop
  | some (.lst _) => True
  | some (.dK _) => True
  | some (.dT _) => True
  | some (.set _ _) => True
  | some (.ins _ _ _) => True
  | some (.ext _) => True
  | _ => False
section
variable {P : Program} {w : World} {H : Hp} {h h' : Heap} {x e : Addr} {o' : HO}
/-- the object at e is changed: x itself, or the dict of the instance x -/
theorem HOk.write (ok : HOk P w H h) (mu : Mut (H x)) (he : e = x ∨ H e = some (.own x)) (k : ∀ b u, b ≠ e → h.get? b = some u → h'.get? b = some u) (heo : ∃ u, h'.get? e = some u)
    (new : ObjOk P w (upd H x o') h' x o') : HOk P w (upd H x o') h' := fun b u q => by
  have nown : ∀ c y, H c = some (.own y) → c ≠ x := fun c y r z => by subst z; rw [r] at mu; exact mu
  have ntup : ∀ c xs, H c = some (.tup xs) → c ≠ x := fun c xs r z => by subst z; rw [r] at mu; exact mu
  by_cases hb : b = x
  · subst hb; rw [upd_same] at q; cases q; exact new
  · rw [upd_ne hb] at q
    by_cases hbe : b = e
    · have q' : H b = some (.own x) := by
        rcases he with z | z
        · exact absurd (hbe.trans z) hb
        · rw [hbe]; exact z
      rw [q] at q'; cases q'
      obtain ⟨v, hv⟩ := heo
      exact ⟨v, by rw [hbe]; exact hv⟩
    · refine (ok b u q).stay (fun c v hc r => k c v ?_ r) (fun c r => by rw [upd_ne (nown c b r)]; exact r) fun c xs r => by rw [upd_ne (ntup c xs r)]; exact r
      rcases hc with rfl | hc
      · exact hbe
      · rintro rfl
        rcases he with z | z
        · exact nown c b hc z
        · rw [hc] at z; cases z; exact hb rfl
end
structure Un (fs ex : List Addr) (H H' : Hp) (h h' : Heap) : Prop where
  keep : ∀ b o, h.get? b = some o → H b = none → b ∉ fs → b ∉ ex → h'.get? b = some o
  slot : ∀ b o, h.get? b = some o → H b = none → b ∈ fs → b ∉ ex → ∃ sl, h'.get? b = some { o with slots := sl }
  free : ∀ b o, h.get? b = some o → H b = none → b ∉ ex → H' b = none
  there : ∀ b o, h.get? b = some o → b ∉ ex → ∃ o', h'.get? b = some o'
  tups : ∀ b xs, H b = some (.tup xs) → H' b = some (.tup xs)
  frzs : ∀ b o u, H b = some (.frz o u) → H' b = some (.frz o u)
  tbls : ∀ b ps, H b = some (.tbl ps) → ∃ more, H' b = some (.tbl (ps ++ more))
section
variable {fs fs' ex ex' : List Addr} {H H1 H2 : Hp} {h h1 h2 h' : Heap} {a x e : Addr} {o : HO}
theorem Un.any (u : Un fs ex H H1 h h1) {b : Addr} {ob : Obj} (q : h.get? b = some ob) (n : H b = none) (hx : b ∉ ex) : ∃ sl, h1.get? b = some { ob with slots := sl } := by
  by_cases hb : b ∈ fs
  · exact u.slot b ob q n hb hx
  · exact ⟨ob.slots, u.keep b ob q n hb hx⟩
theorem Un.trans (a : Un fs ex H H1 h h1) (b : Un fs ex H1 H2 h1 h2) : Un fs ex H H2 h h2 where
  keep := fun c ob q n hc hx => b.keep c ob (a.keep c ob q n hc hx) (a.free c ob q n hx) hc hx
  slot := fun c ob q n hc hx => by
    obtain ⟨sl, e1⟩ := a.slot c ob q n hc hx
    obtain ⟨sl', e2⟩ := b.slot c _ e1 (a.free c ob q n hx) hc hx
    exact ⟨sl', e2⟩
  free := fun c ob q n hx => by
    obtain ⟨o', e1⟩ := a.there c ob q hx
    exact b.free c o' e1 (a.free c ob q n hx) hx
  there := fun c ob q hx => by
    obtain ⟨o', e1⟩ := a.there c ob q hx
    exact b.there c o' e1 hx
  tups := fun c xs q => b.tups c xs (a.tups c xs q)
  frzs := fun c ob xs q => b.frzs c ob xs (a.frzs c ob xs q)
  tbls := fun c ps q => by
    obtain ⟨m1, e1⟩ := a.tbls c ps q
    obtain ⟨m2, e2⟩ := b.tbls c _ e1
    exact ⟨m1 ++ m2, by rw [e2, Array.append_assoc]⟩
theorem Un.kept (k : ∀ b u, h.get? b = some u → h'.get? b = some u) : Un fs ex H H h h' :=
  ⟨fun b ob q _ _ _ => k b ob q, fun b ob q _ _ _ => ⟨ob.slots, k b ob q⟩, fun _ _ _ n _ => n, fun b ob q _ => ⟨ob, k b ob q⟩, fun _ _ q => q, fun _ _ _ q => q, fun _ ps q => ⟨#[], by rw [q]; simp⟩⟩
theorem Un.refl : Un fs ex H H h h := Un.kept fun _ _ q => q
theorem Un.laid (k : ∀ b u, h.get? b = some u → h'.get? b = some u) (hp : h.objs.size ≤ a) (hn : H a = none) : Un fs ex H (upd H a o) h h' where
  keep := fun b u q _ _ _ => k b u q
  slot := fun b u q _ _ _ => ⟨u.slots, k b u q⟩
  free := fun b u q n _ => by rw [upd_ne (Nat.ne_of_lt (Nat.lt_of_lt_of_le (Heap.lt_size q) hp))]; exact n
  there := fun b u q _ => ⟨u, k b u q⟩
  tups := fun b xs q => by rw [upd_ne (ne_of_none q hn)]; exact q
  frzs := fun b u xs q => by rw [upd_ne (ne_of_none q hn)]; exact q
  tbls := fun b ps q => ⟨#[], by rw [upd_ne (ne_of_none q hn), q]; simp⟩
theorem Un.write (mu : Mut (H x)) (he : e = x ∨ H e = some (.own x)) (k : ∀ b u, b ≠ e → h.get? b = some u → h'.get? b = some u) (heo : ∃ u, h'.get? e = some u) : Un fs ex H (upd H x o) h h' := by
  have hx : ∀ b, H b = none → b ≠ x := fun b n z => by subst z; rw [n] at mu; exact mu
  have hb : ∀ b, H b = none → b ≠ e := fun b n z => by
    subst z
    rcases he with r | r
    · exact hx b n r
    · rw [n] at r; cases r
  have hm : ∀ b u, H b = some u → ¬ Mut (some u) → b ≠ x := fun b u q nm z => by subst z; rw [q] at mu; exact nm mu
  refine ⟨fun b u q n _ _ => k b u (hb b n) q, fun b u q n _ _ => ⟨u.slots, k b u (hb b n) q⟩, fun b u q n _ => by rw [upd_ne (hx b n)]; exact n, fun b u q _ => ?_,
    fun b xs q => by rw [upd_ne (hm b _ q fun z => z)]; exact q, fun b u xs q => by rw [upd_ne (hm b _ q fun z => z)]; exact q, fun b ps q => ⟨#[], by rw [upd_ne (hm b _ q fun z => z), q]; simp⟩⟩
  by_cases hbe : b = e
  · subst hbe; exact heo
  · exact ⟨u, k b u hbe q⟩
theorem Un.mono (u : Un fs ex H H1 h h1) (hs : ∀ b ∈ fs, b ∈ fs') (hx : ∀ b ∈ ex, b ∈ ex') : Un fs' ex' H H1 h h1 :=
  ⟨fun b ob q n hb he => u.keep b ob q n (fun z => hb (hs b z)) fun z => he (hx b z), fun _ _ q n _ he => u.any q n fun z => he (hx _ z), fun b ob q n he => u.free b ob q n fun z => he (hx b z), fun b ob q he => u.there b ob q fun z => he (hx b z), u.tups, u.frzs, u.tbls⟩
end
def trk (h : Heap) (H : Hp) : List Addr := (List.range h.objs.size).filter fun a => (H a).isSome
def hidT (h : Heap) (H : Hp) : Heap := PySem.W.hideAll h (trk h H)
theorem hidT_size (h : Heap) (H : Hp) : (hidT h H).objs.size = h.objs.size := PySem.W.hideAll_size _ _
theorem hidT_get {h : Heap} {H : Hp} {b : Addr} {o : Obj} (e : h.get? b = some o) (n : H b = none) : (hidT h H).get? b = some o :=
  PySem.W.hideAll_get _ e fun hm => by
    have q : (H b).isSome = true := (List.mem_filter.mp hm).2
    rw [n] at q; simp at q
theorem of_hidT {h : Heap} {H : Hp} {b : Addr} {o : Obj} (e : (hidT h H).get? b = some o) : h.get? b = some o ∧ H b = none := by
  have e' : h.get? b = some o := PySem.W.of_hideAll (trk h H) e
  refine ⟨e', ?_⟩
  cases q : H b with
  | none => rfl
  | some x =>
    have hm : b ∈ trk h H := List.mem_filter.mpr ⟨List.mem_range.mpr (Heap.lt_size e'), by simp [q]⟩
    have z : (hidT h H).get? b = none := PySem.W.hideAll_none (trk h H) hm
    rw [z] at e; cases e

def allNews (g h : Heap) (L : Addr) : List (Addr × Obj) := (List.range h.objs.size).filterMap fun a => if a = L ∨ (g.get? a).isSome = true then none else (h.get? a).map fun o => (a, o)
def rest (g h : Heap) (L d : Addr) : List (Addr × Obj) := (allNews g h L).filter fun p => decide (p.1 ≠ d)
end L2
namespace L2
open PySem PySem.Spec PyProof.Rows
/-- the module's facts, over the base: the heap at the law's entry without what is tracked there -/
structure Mod (K : PySem.W.Frag) (mg : Str → Option Value) (base : Heap) : Prop where
  kin : K.In base
  glob : base.Ns mainGlobals mg
  blt : ∃ mb, base.Ns builtinsNs mb ∧ ∀ x : Str, x ≠ "__name__" → mb x = bootBuiltins x
  nolimit : base.NoLimit

/-- the context: a def's body (or a comprehension's block) running. base: fixed through the whole law; s₀, H₀: the entry; outer: the frames whose slots others may change (a def's callers); stack: all frames that run;
   ex: iterators that were made ahead of the entry and are walked here (a comprehension's); fn: the names whose cells were made at the entry (a def: all; a comprehension's block: its own); calm: not within an except suite; pn: pins that every state bears; xe: what is wanted of an exception that leaves the code -/
structure Cx where
  prog : Program
  w : World
  K : PySem.W.Frag
  mg : Str → Option Value
  base : Heap
  A : Around
  N : List Str
  s₀ : Shared
  H₀ : Hp
  env : Env
  outer : List Env
  stack : List Env
  ex : List Addr
  fn : Str → Bool
  calm : Bool
  pn : List (Addr × Obj)
  xe : Value → Shared → Prop
/-- the callers' frames -/
def frs (l : List Env) : List Addr := l.filterMap (·.frame)
abbrev Cx.fs (X : Cx) : List Addr := frs X.outer

def Vis (sc : Scope) (x : Str) : Prop := sc.names.lookup x = some .local ∨ sc.names.lookup x = some .cell ∨ sc.names.lookup x = some .free
def Loc (sc : Scope) (x : Str) : Prop := sc.names.lookup x = some .local ∨ sc.names.lookup x = some .cell
def Look (env : Env) (h : Heap) (m : Str → Option Value) (x : Str) (u : Value) : Prop :=
  (env.kindOf x = some .local ∧ m x = some u) ∨ ((env.kindOf x = some .cell ∨ env.kindOf x = some .free) ∧ ∃ c, env.cells.lookup x = some c ∧ h.IsCell c (some u))

structure Cx.Ok (X : Cx) : Prop where
  mod : Mod X.K X.mg X.base
  kind : X.env.scope.kind = .function
  glob : X.env.globals = mainGlobals
  blt : X.env.builtins = builtinsNs
  above : X.s₀.heap.objs.size ≤ X.env.locals
  inj : ∀ x y c, X.env.cells.lookup x = some c → X.env.cells.lookup y = some c → x = y
  has : ∀ x, (X.env.kindOf x = some .cell ∨ X.env.kindOf x = some .free) → ∃ c, X.env.cells.lookup x = some c
  cab : ∀ x c, X.fn x = true → X.env.cells.lookup x = some c → X.s₀.heap.objs.size ≤ c
  hd : X.calm = true → X.A.handled = none
  frames : X.A.frames = some X.stack
  stk : X.stack = X.outer ∨ (X.stack = X.env :: X.outer ∧ X.env.frame = some X.env.locals)
  exf : ∀ b ∈ X.ex, b ≠ X.env.locals ∧ ∀ x c, X.env.cells.lookup x = some c → c ≠ b
  bs : ∀ b o, X.base.get? b = some o → X.s₀.heap.get? b = some o ∧ X.H₀ b = none
  bsz : X.base.objs.size ≤ X.s₀.heap.objs.size
  noex : ∀ b o, X.base.get? b = some o → b ∉ X.ex
  exfs : ∀ b ∈ X.ex, b ∉ X.fs
  funs : X.s₀.heap.FunFrames X.base X.outer
  frf : ∀ b ∈ X.fs, X.H₀ b = none

structure Inv (X : Cx) (pins : List (Addr × Obj)) (σ : List (Option V)) (H : Hp) (s : Shared) : Prop where
  ok : X.Ok
  os : s.os = X.s₀.os
  bare : AllBare s.gens
  base : Un X.fs X.ex X.H₀ H X.s₀.heap s.heap
  loc : ∃ m, s.heap.Ns X.env.locals m ∧ ∀ (i : Nat) (x : Str) (v : V), X.N[i]? = some x → σ[i]? = some (some v) → Vis X.env.scope x → ∃ u, RelV v u ∧ Look X.env s.heap m x u
  cell : ∀ x c, X.env.cells.lookup x = some c → ∃ v, s.heap.IsCell c v
  free : H X.env.locals = none
  freeC : ∀ x c, X.env.cells.lookup x = some c → H c = none
  pin : ∀ p ∈ X.pn ++ pins, s.heap.get? p.1 = some p.2 ∧ H p.1 = none ∧ p.1 ≠ X.env.locals ∧ p.1 ∉ X.fs ∧ ∀ v, p.2.data ≠ .cell v
  hok : HOk X.prog X.w H s.heap
  len : σ.length = X.N.length

section
variable {X : Cx} {pins : List (Addr × Obj)} {σ : List (Option V)} {H H' : Hp} {s : Shared} {h' : Heap}
theorem Cx.Ok.nofr (ok : X.Ok) {b : Addr} {o : Obj} (e : X.base.get? b = some o) : b ∉ X.fs := fun hb => by
  have := (ok.funs.mem hb).1
  rw [e] at this; cases this
theorem Inv.bs (I : Inv X pins σ H s) : ∀ b o, X.base.get? b = some o → s.heap.get? b = some o ∧ H b = none := fun b o e =>
  ⟨I.base.keep b o (I.ok.bs b o e).1 (I.ok.bs b o e).2 (I.ok.nofr e) (I.ok.noex b o e), I.base.free b o (I.ok.bs b o e).1 (I.ok.bs b o e).2 (I.ok.noex b o e)⟩
theorem Inv.bk (I : Inv X pins σ H s) : ∀ b o, X.base.get? b = some o → s.heap.get? b = some o := fun b o e => (I.bs b o e).1
theorem Inv.mod (I : Inv X pins σ H s) : Mod X.K X.mg X.base := I.ok.mod
theorem Inv.kIn (I : Inv X pins σ H s) : X.K.In s.heap := I.ok.mod.kin.keeps I.bk
theorem Inv.nolimit (I : Inv X pins σ H s) : s.heap.NoLimit := I.ok.mod.nolimit.keeps I.bk
/-- the frame over the base: for OpenK's rules (K.In X.base is I.mod.kin) -/
theorem Inv.fr (I : Inv X pins σ H s) : ∃ m, Fr X.base X.env.locals s.heap m :=
  let ⟨m, hn, _⟩ := I.loc
  ⟨m, hn, I.bk, Nat.le_trans I.ok.bsz I.ok.above⟩
theorem Inv.lt (I : Inv X pins σ H s) : X.env.locals < s.heap.objs.size := let ⟨_, hn, _⟩ := I.loc; hn.lt
theorem Inv.sz (I : Inv X pins σ H s) : X.s₀.heap.objs.size ≤ s.heap.objs.size := Nat.le_trans I.ok.above (Nat.le_of_lt I.lt)
theorem Inv.nofs (I : Inv X pins σ H s) {a : Addr} (h : s.heap.objs.size ≤ a) : a ∉ X.fs := fun hb => by
  obtain ⟨_, o, ho, _⟩ := I.ok.funs.mem hb
  exact absurd (Nat.lt_of_lt_of_le (Heap.lt_size ho) (Nat.le_trans I.sz h)) (Nat.lt_irrefl _)
theorem Inv.cne (I : Inv X pins σ H s) : ∀ x c, X.env.cells.lookup x = some c → c ≠ X.env.locals := fun x c e z => by
  obtain ⟨v, o, ho, hd⟩ := I.cell x c e
  obtain ⟨m, ⟨o', es, ep, ho', hd', _⟩, _⟩ := I.loc
  rw [z, ho'] at ho; cases ho; rw [hd'] at hd; cases hd
theorem Inv.funs (I : Inv X pins σ H s) : s.heap.FunFrames X.base X.outer := by
  have all : ∀ (l : List Env), (∀ b ∈ frs l, b ∈ X.fs) → X.s₀.heap.FunFrames X.base l → s.heap.FunFrames X.base l := by
    intro l
    induction l with
    | nil => intro _ _; trivial
    | cons env r ih =>
      intro hs hl
      obtain ⟨hk, ⟨L, o, hf, hn, ho, hd⟩, hr⟩ := hl
      have hL : L ∈ X.fs := hs L (by unfold frs; rw [List.filterMap_cons, hf]; exact List.mem_cons_self)
      obtain ⟨sl, e⟩ := I.base.slot L o ho (I.ok.frf L hL) hL fun z => I.ok.exfs L z hL
      exact ⟨hk, ⟨L, _, hf, hn, e, hd⟩, ih (fun b hb => hs b (by unfold frs; rw [List.filterMap_cons, hf]; exact List.mem_cons_of_mem _ hb)) hr⟩
  exact all X.outer (fun _ hb => hb) I.ok.funs

/-- the frames that run, for a call -/
theorem Inv.stack (I : Inv X pins σ H s) : s.heap.FunFrames X.base X.stack := by
  rcases I.ok.stk with e | ⟨e, hf⟩
  · rw [e]; exact I.funs
  · rw [e]
    obtain ⟨m, hn, _⟩ := I.loc
    refine .cons (by rw [I.ok.kind]; decide) hf hn ?_ I.funs
    exact Heap.get?_none_of_le (Nat.le_trans I.ok.bsz I.ok.above)
theorem Inv.stkSub (I : Inv X pins σ H s) : ∀ b ∈ frs X.stack, b ∈ X.env.locals :: X.fs := fun b hb => by
  rcases I.ok.stk with e | ⟨e, hf⟩
  · rw [e] at hb; exact List.mem_cons_of_mem _ hb
  · rw [e] at hb
    unfold frs at hb
    rw [List.filterMap_cons, hf] at hb
    exact hb
theorem Inv.stkFree (I : Inv X pins σ H s) : ∀ b ∈ frs X.stack, H b = none := fun b hb => by
  rcases List.mem_cons.mp (I.stkSub b hb) with e | hb
  · rw [e]; exact I.free
  · obtain ⟨_, o, ho, _⟩ := I.ok.funs.mem hb
    exact I.base.free b o ho (I.ok.frf b hb) fun z => I.ok.exfs b z hb

/-- THE STEP: the untracked objects but the frame and the records at ch are kept (the callers' frames up to slots), the frame's map is kept, the new abstract heap is held -/
theorem Inv.step {g' : Array GenState} {t' : Nat} {d' : Drawn} {ch : List Addr} (I : Inv X pins σ H s)
    (hch : ∀ b ∈ ch, (b ∈ X.ex ∨ X.s₀.heap.objs.size ≤ b) ∧ b ≠ X.env.locals ∧ (∀ x c, X.env.cells.lookup x = some c → c ≠ b) ∧ ∀ p ∈ X.pn ++ pins, p.1 ≠ b)
    (keep : ∀ b o, b ≠ X.env.locals → b ∉ X.fs → b ∉ ch → s.heap.get? b = some o → H b = none → h'.get? b = some o)
    (slot : ∀ b o, b ≠ X.env.locals → b ∈ X.fs → b ∉ ch → s.heap.get? b = some o → H b = none → ∃ sl, h'.get? b = some { o with slots := sl }) (free : ∀ b o, b ∉ ch → s.heap.get? b = some o → H b = none → H' b = none)
    (there : ∀ b o, b ∉ ch → s.heap.get? b = some o → ∃ o', h'.get? b = some o')
    (tups : ∀ b xs, H b = some (.tup xs) → H' b = some (.tup xs)) (frzs : ∀ b o u, H b = some (.frz o u) → H' b = some (.frz o u)) (tbls : ∀ b ps, H b = some (.tbl ps) → ∃ more, H' b = some (.tbl (ps ++ more)))
    (ns : ∀ m, s.heap.Ns X.env.locals m → h'.Ns X.env.locals m) (hok : HOk X.prog X.w H' h') (hg : AllBare g') :
    Inv X pins σ H' { s with heap := h', gens := g', drawn := d', toks := t' } := by
  have neL : ∀ b o, X.s₀.heap.get? b = some o → b ≠ X.env.locals := fun b o e => Nat.ne_of_lt (Nat.lt_of_lt_of_le (Heap.lt_size e) I.ok.above)
  have neC : ∀ b o, X.s₀.heap.get? b = some o → b ∉ X.ex → b ∉ ch := fun b o e hx hb => by
    rcases (hch b hb).1 with z | z
    · exact hx z
    · exact absurd (Nat.lt_of_lt_of_le (Heap.lt_size e) z) (Nat.lt_irrefl _)
  have cellK : ∀ x c, X.env.cells.lookup x = some c → ∀ v, s.heap.IsCell c v → h'.IsCell c v := fun x c e v ⟨o, ho, hd⟩ => by
    have nch : c ∉ ch := fun z => (hch c z).2.2.1 x c e rfl
    by_cases hc : c ∈ X.fs
    · obtain ⟨sl, q⟩ := slot c o (I.cne x c e) hc nch ho (I.freeC x c e)
      exact ⟨_, q, hd⟩
    · exact ⟨o, keep c o (I.cne x c e) hc nch ho (I.freeC x c e), hd⟩
  refine ⟨I.ok, I.os, hg, ⟨fun b o e n hb hx => ?_, fun b o e n hb hx => ?_, fun b o e n hx => ?_, fun b o e hx => ?_, fun b xs e => tups b xs (I.base.tups b xs e), fun b o xs e => frzs b o xs (I.base.frzs b o xs e), fun b ps e => ?_⟩, ?_, fun x c e => ?_, ?_, fun x c e => ?_, fun p hp => ?_, hok, I.len⟩
  · exact keep b o (neL b o e) hb (neC b o e hx) (I.base.keep b o e n hb hx) (I.base.free b o e n hx)
  · obtain ⟨sl, e1⟩ := I.base.slot b o e n hb hx
    obtain ⟨sl', e2⟩ := slot b _ (neL b o e) hb (neC b o e hx) e1 (I.base.free b o e n hx)
    exact ⟨sl', e2⟩
  · obtain ⟨o', e1⟩ := I.base.there b o e hx
    exact free b o' (neC b o e hx) e1 (I.base.free b o e n hx)
  · obtain ⟨o', e1⟩ := I.base.there b o e hx
    exact there b o' (neC b o e hx) e1
  · obtain ⟨m1, e1⟩ := I.base.tbls b ps e
    obtain ⟨m2, e2⟩ := tbls b _ e1
    exact ⟨m1 ++ m2, by rw [e2, Array.append_assoc]⟩
  · obtain ⟨m, hn, hl⟩ := I.loc
    refine ⟨m, ns m hn, fun i x v e1 e2 e3 => ?_⟩
    obtain ⟨u, r, l⟩ := hl i x v e1 e2 e3
    refine ⟨u, r, ?_⟩
    rcases l with l | ⟨k, c, e, z⟩
    · exact .inl l
    · exact .inr ⟨k, c, e, cellK x c e _ z⟩
  · obtain ⟨v, z⟩ := I.cell x c e
    exact ⟨v, cellK x c e v z⟩
  · obtain ⟨m, ⟨o, _, _, ho, _⟩, _⟩ := I.loc
    exact free _ o (fun z => (hch _ z).2.1 rfl) ho I.free
  · obtain ⟨v, o, ho, hd⟩ := I.cell x c e
    exact free c o (fun z => (hch c z).2.2.1 x c e rfl) ho (I.freeC x c e)
  · obtain ⟨e, n, ne, nf, d⟩ := I.pin p hp
    have nch : p.1 ∉ ch := fun z => (hch p.1 z).2.2.2 p hp rfl
    exact ⟨keep p.1 p.2 ne nf nch e n, free p.1 p.2 nch e n, ne, nf, d⟩
/-- .. where the frame's own object is kept too -/
theorem Inv.un {t' : Nat} (I : Inv X pins σ H s) (u : Un X.fs [] H H' s.heap h') (hok : HOk X.prog X.w H' h') : Inv X pins σ H' { s with heap := h', toks := t' } := by
  obtain ⟨m, ⟨o, es, ep, ho, r⟩, _⟩ := id I.loc
  obtain ⟨sl, hL⟩ := u.any ho I.free (by simp)
  exact I.step (g' := s.gens) (d' := s.drawn) (ch := []) (fun _ z => nomatch z) (fun b o _ hb _ e n => u.keep b o e n hb (by simp)) (fun b o _ hb _ e n => u.slot b o e n hb (by simp)) (fun b o _ e n => u.free b o e n (by simp)) (fun b o _ e => u.there b o e (by simp)) u.tups u.frzs u.tbls (fun m' hm => by
    obtain ⟨o', es', ep', ho', r'⟩ := hm
    rw [ho] at ho'; cases ho'
    exact ⟨_, es', ep', hL, r'⟩) hok I.bare
/-- behind a call (or a comprehension's block): the slots of this frame may have changed too, the records at ch may have turned -/
theorem Inv.call {g' : Array GenState} {t' : Nat} {d' : Drawn} {ch : List Addr} (I : Inv X pins σ H s) (u : Un (frs X.stack) ch H H' s.heap h') (hok : HOk X.prog X.w H' h') (hg : AllBare g')
    (hch : ∀ b ∈ ch, (b ∈ X.ex ∨ X.s₀.heap.objs.size ≤ b) ∧ b ≠ X.env.locals ∧ (∀ x c, X.env.cells.lookup x = some c → c ≠ b) ∧ ∀ p ∈ X.pn ++ pins, p.1 ≠ b) :
    Inv X pins σ H' { s with heap := h', gens := g', drawn := d', toks := t' } := by
  obtain ⟨m, ⟨o, es, ep, ho, r⟩, _⟩ := id I.loc
  obtain ⟨sl, hL⟩ := u.any ho I.free fun z => (hch _ z).2.1 rfl
  exact I.step (ch := ch) hch (fun b o hL hb hc e n => u.keep b o e n (fun z => (List.mem_cons.mp (I.stkSub b z)).elim hL hb) hc) (fun b o _ _ hc e n => u.any e n hc) (fun b o hc e n => u.free b o e n hc) (fun b o hc e => u.there b o e hc) u.tups u.frzs u.tbls (fun m' hm => by
    obtain ⟨o', es', ep', ho', r'⟩ := hm
    rw [ho] at ho'; cases ho'
    exact ⟨_, es', ep', hL, r'⟩) hok hg
/-- an untracked record of ours (an iterator) has turned -/
theorem Inv.turned {t' : Nat} {it : Addr} (I : Inv X pins σ H s) (k : ∀ b o, b ≠ it → s.heap.get? b = some o → h'.get? b = some o) (hn : H it = none) (hL : it ≠ X.env.locals)
    (h1 : it ∈ X.ex ∨ X.s₀.heap.objs.size ≤ it) (h2 : ∀ x c, X.env.cells.lookup x = some c → c ≠ it) (h3 : ∀ p ∈ X.pn ++ pins, p.1 ≠ it) : Inv X pins σ H { s with heap := h', toks := t' } := by
  have nit : ∀ b u, H b = some u → b ≠ it := fun b u e z => by rw [z, hn] at e; cases e
  refine I.step (g' := s.gens) (d' := s.drawn) (ch := [it]) (fun b hb => ?_) (fun b o _ _ hc e _ => k b o (fun z => hc (by simp [z])) e) (fun b o _ _ hc e _ => ⟨o.slots, k b o (fun z => hc (by simp [z])) e⟩) (fun _ _ _ _ n => n)
    (fun b o hc e => ⟨o, k b o (fun z => hc (by simp [z])) e⟩) (fun _ _ e => e) (fun _ _ _ e => e) (fun b ps e => ⟨#[], by rw [e]; simp⟩) (fun m hm => ?_) (fun b u e => ?_) I.bare
  · have e : b = it := by simpa using hb
    subst e
    exact ⟨h1, hL, h2, h3⟩
  · obtain ⟨o, es, ep, ho, r⟩ := hm
    exact ⟨o, es, ep, k _ o (Ne.symm hL) ho, r⟩
  · refine (I.hok b u e).stay (fun c v hc q => k c v ?_ q) (fun _ q => q) fun _ _ q => q
    rcases hc with z | z
    · rw [z]; exact nit b u e
    · exact nit c _ z
theorem Inv.tok (I : Inv X pins σ H s) (t : Nat) : Inv X pins σ H { s with toks := t } := I.un (h' := s.heap) (t' := t) Un.refl I.hok
/-- all objects kept -/
theorem Inv.kept {t' : Nat} (I : Inv X pins σ H s) (k : ∀ b u, s.heap.get? b = some u → h'.get? b = some u) : Inv X pins σ H { s with heap := h', toks := t' } := I.un (Un.kept k) (I.hok.kept k)
/-- a new object laid and tracked -/
theorem Inv.laid {a : Addr} {o : HO} {t' : Nat} (I : Inv X pins σ H s) (k : ∀ b u, s.heap.get? b = some u → h'.get? b = some u) (hp : s.heap.objs.size ≤ a) (new : ObjOk X.prog X.w (upd H a o) h' a o) :
    Inv X pins σ (upd H a o) { s with heap := h', toks := t' } := I.un (Un.laid k hp (I.hok.fresh hp)) (I.hok.laid k hp new)
/-- an object written -/
theorem Inv.write {x e : Addr} {o : HO} {t' : Nat} (I : Inv X pins σ H s) (mu : Mut (H x)) (he : e = x ∨ H e = some (.own x)) (k : ∀ b u, b ≠ e → s.heap.get? b = some u → h'.get? b = some u) (heo : ∃ u, h'.get? e = some u)
    (new : ObjOk X.prog X.w (upd H x o) h' x o) : Inv X pins σ (upd H x o) { s with heap := h', toks := t' } := I.un (Un.write mu he k heo) (I.hok.write mu he k heo new)
theorem Inv.pins_of {pins' : List (Addr × Obj)} (I : Inv X pins σ H s) (h : ∀ p ∈ pins', s.heap.get? p.1 = some p.2 ∧ H p.1 = none ∧ p.1 ≠ X.env.locals ∧ p.1 ∉ X.fs ∧ ∀ v, p.2.data ≠ .cell v) : Inv X pins' σ H s :=
  ⟨I.ok, I.os, I.bare, I.base, I.loc, I.cell, I.free, I.freeC, fun p hp => (List.mem_append.mp hp).elim (fun z => I.pin p (List.mem_append_left _ z)) (h p), I.hok, I.len⟩

theorem nodup_ix {N : List Str} (hN : N.Nodup) {i j : Nat} {x : Str} (a : N[i]? = some x) (b : N[j]? = some x) : i = j := by
  obtain ⟨h1, e1⟩ := List.getElem?_eq_some_iff.mp a
  obtain ⟨h2, e2⟩ := List.getElem?_eq_some_iff.mp b
  exact (List.getElem_inj hN).mp (e1.trans e2.symm)

/-- a name is stored; what changed -/
theorem store_ok2 {M : Model} {A : Around} {E : Value → Shared → Prop} {i : Nat} {x : Str} {v : V} {u : Value} {Q : Unit → Shared → Prop} (I : Inv X pins σ H s) (hN : X.N.Nodup) (hi : X.N[i]? = some x) (hx : Loc X.env.scope x) (r : RelV v u)
    (h : ∀ s', Inv X pins (σ.set i (some v)) H s' → (∃ a, Heap.SameBut a s.heap s'.heap ∧ (a = X.env.locals ∨ X.env.cells.lookup x = some a)) → Q () s') (hf : X.fn x = true ∨ X.env.scope.names.lookup x = some .local := by first | exact .inl rfl | exact .inr rfl | assumption) : wpAny M A (storeName X.env x u) Q E s := by
  obtain ⟨m, hn, hl⟩ := id I.loc
  have hcls : (X.env.scope.kind == .class || (X.env.scope.kind == .module && X.env.locals != X.env.globals)) = false := by rw [I.ok.kind]; rfl
  have hiσ : i < σ.length := by rw [I.len]; exact (List.getElem?_eq_some_iff.mp hi).1
  have cne := I.cne
  have tracked : ∀ {a : Addr} {h' : Heap}, (∃ o, s.heap.get? a = some o ∧ H a = none) → Heap.SameBut a s.heap h' → HOk X.prog X.w H h' := fun {a h'} ha hs b ob e => by
    obtain ⟨_, _, hfree⟩ := ha
    refine (I.hok b ob e).stay (fun c w' hc q => (hs.2 c ?_).trans q) (fun _ q => q) fun _ _ q => q
    rintro rfl
    rcases hc with rfl | hc
    · rw [hfree] at e; cases e
    · rw [hfree] at hc; cases hc
  rcases hx with hk | hk
  · refine wpAny_storeName_local hk hn (fun h' hn' hs => ?_) hcls
    obtain ⟨oL, _, _, hoL, _⟩ := id hn
    refine h _ ⟨I.ok, I.os, I.bare, ⟨fun b o e n hb hx => ?_, fun b o e n hb hx => ?_, I.base.free, fun b o e hx => ?_, I.base.tups, I.base.frzs, I.base.tbls⟩, ⟨_, hn', fun j y v' e1 e2 e3 => ?_⟩, fun y c e => ?_, I.free, I.freeC, fun p hp => ?_, tracked ⟨oL, hoL, I.free⟩ hs, by simpa using I.len⟩ ⟨_, hs, .inl rfl⟩
    · exact (hs.2 b (Nat.ne_of_lt (Nat.lt_of_lt_of_le (Heap.lt_size e) I.ok.above))).trans (I.base.keep b o e n hb hx)
    · obtain ⟨sl, e1⟩ := I.base.slot b o e n hb hx
      exact ⟨sl, (hs.2 b (Nat.ne_of_lt (Nat.lt_of_lt_of_le (Heap.lt_size e) I.ok.above))).trans e1⟩
    · obtain ⟨o', e1⟩ := I.base.there b o e hx
      exact ⟨o', (hs.2 b (Nat.ne_of_lt (Nat.lt_of_lt_of_le (Heap.lt_size e) I.ok.above))).trans e1⟩
    · by_cases hj : j = i
      · subst hj
        rw [hi] at e1; cases e1
        rw [List.getElem?_set_self hiσ] at e2
        cases e2
        exact ⟨u, r, .inl ⟨hk, by simp⟩⟩
      · rw [List.getElem?_set_ne (Ne.symm hj)] at e2
        obtain ⟨u', r', q⟩ := hl j y v' e1 e2 e3
        refine ⟨u', r', ?_⟩
        rcases q with ⟨k, e⟩ | ⟨k, c, e, z⟩
        · refine .inl ⟨k, ?_⟩
          have : y ≠ x := fun e => hj (nodup_ix hN e1 (e ▸ hi))
          simp [this, e]
        · exact .inr ⟨k, c, e, z.sameBut hs (cne y c e)⟩
    · obtain ⟨w', z⟩ := I.cell y c e
      exact ⟨w', z.sameBut hs (cne y c e)⟩
    · obtain ⟨e, n, ne, nf, d⟩ := I.pin p hp
      exact ⟨(hs.2 p.1 ne).trans e, n, ne, nf, d⟩
  · have hfn : X.fn x = true := by
      rcases hf with z | z
      · exact z
      · rw [z] at hk; cases hk
    obtain ⟨c, hc⟩ := I.ok.has x (.inl hk)
    obtain ⟨w', z⟩ := I.cell x c hc
    refine wpAny_storeName_cell I.ok.kind hk hc z (fun h' hc' hs => ?_)
    obtain ⟨oc, hoc, hocd⟩ := id z
    refine h { s with heap := h' } ⟨I.ok, I.os, I.bare, ⟨fun b o e n hb hx => ?_, fun b o e n hb hx => ?_, I.base.free, fun b o e hx => ?_, I.base.tups, I.base.frzs, I.base.tbls⟩, ⟨m, hn.sameBut hs (Ne.symm (cne x c hc)), fun j y v' e1 e2 e3 => ?_⟩, fun y c' e => ?_, I.free, I.freeC, fun p hp => ?_, tracked ⟨oc, hoc, I.freeC x c hc⟩ hs, by simpa using I.len⟩ ⟨c, hs, .inr hc⟩
    · exact (hs.2 b (Nat.ne_of_lt (Nat.lt_of_lt_of_le (Heap.lt_size e) (I.ok.cab x c hfn hc)))).trans (I.base.keep b o e n hb hx)
    · obtain ⟨sl, e1⟩ := I.base.slot b o e n hb hx
      exact ⟨sl, (hs.2 b (Nat.ne_of_lt (Nat.lt_of_lt_of_le (Heap.lt_size e) (I.ok.cab x c hfn hc)))).trans e1⟩
    · obtain ⟨o', e1⟩ := I.base.there b o e hx
      exact ⟨o', (hs.2 b (Nat.ne_of_lt (Nat.lt_of_lt_of_le (Heap.lt_size e) (I.ok.cab x c hfn hc)))).trans e1⟩
    · by_cases hj : j = i
      · subst hj
        rw [hi] at e1; cases e1
        rw [List.getElem?_set_self hiσ] at e2
        cases e2
        exact ⟨u, r, .inr ⟨.inl hk, c, hc, hc'⟩⟩
      · rw [List.getElem?_set_ne (Ne.symm hj)] at e2
        obtain ⟨u', r', q⟩ := hl j y v' e1 e2 e3
        refine ⟨u', r', ?_⟩
        rcases q with q | ⟨k, c', e, z'⟩
        · exact .inl q
        · refine .inr ⟨k, c', e, z'.sameBut hs ?_⟩
          rintro rfl
          exact hj (nodup_ix hN e1 (I.ok.inj _ _ _ e hc ▸ hi))
    · by_cases hcc : c' = c
      · subst hcc; exact ⟨_, hc'⟩
      · obtain ⟨w2, z2⟩ := I.cell y c' e
        exact ⟨w2, z2.sameBut hs hcc⟩
    · obtain ⟨e, n, ne, nf, d⟩ := I.pin p hp
      refine ⟨(hs.2 p.1 ?_).trans e, n, ne, nf, d⟩
      intro q
      rw [q, hoc] at e
      have q' : oc = p.2 := Option.some.inj e
      exact d w' (by rw [← q']; exact hocd)
theorem store_ok {M : Model} {A : Around} {E : Value → Shared → Prop} {i : Nat} {x : Str} {v : V} {u : Value} {Q : Unit → Shared → Prop} (I : Inv X pins σ H s) (hN : X.N.Nodup) (hi : X.N[i]? = some x) (hx : Loc X.env.scope x) (r : RelV v u)
    (h : ∀ s', Inv X pins (σ.set i (some v)) H s' → Q () s') (hf : X.fn x = true ∨ X.env.scope.names.lookup x = some .local := by first | exact .inl rfl | exact .inr rfl | assumption) : wpAny M A (storeName X.env x u) Q E s :=
  store_ok2 I hN hi hx r (fun s' I' _ => h s' I') hf
/-- behind a call or a block, the state as it is -/
theorem Inv.call' {s' : Shared} {ch : List Addr} (I : Inv X pins σ H s) (ho : s'.os = s.os) (u : Un (frs X.stack) ch H H' s.heap s'.heap) (hok : HOk X.prog X.w H' s'.heap) (hg : AllBare s'.gens)
    (hch : ∀ b ∈ ch, (b ∈ X.ex ∨ X.s₀.heap.objs.size ≤ b) ∧ b ≠ X.env.locals ∧ (∀ x c, X.env.cells.lookup x = some c → c ≠ b) ∧ ∀ p ∈ X.pn ++ pins, p.1 ≠ b) : Inv X pins σ H' s' := by
  obtain ⟨h', g', d', t', o'⟩ := s'
  have e : o' = s.os := ho
  subst e
  exact I.call (g' := g') (t' := t') (d' := d') u hok hg hch
end
/-- an exception: its class, its own dict's address (where it has one), the abstract heap behind it -/
abbrev XK := Value → Option Addr → Hp → Prop
abbrev St := List (Option V)
abbrev VK := V → Hp → Prop
/-- an expression's reading; a test's; an argument list's -/
abbrev TE := St → Hp → VK → Prop
abbrev TT := St → Hp → (Bool → Hp → Prop) → Prop
abbrev TA := St → Hp → (List V → Hp → Prop) → Prop
/-- what is wanted behind a statement -/
structure Ends where
  nx : St → Hp → Prop
  rt : VK
  bk : St → Hp → Prop := fun _ _ => False
  ct : St → Hp → Prop := fun _ _ => False
abbrev TS := Ends → St → Hp → Prop

def EP (X : Cx) (pins : List (Addr × Obj)) (σ : St) (Q : VK) (u : Value) (s' : Shared) : Prop := ∃ v H', Inv X pins σ H' s' ∧ RelV v u ∧ Q v H'
def TP (X : Cx) (pins : List (Addr × Obj)) (σ : St) (Q : Bool → Hp → Prop) (b : Bool) (s' : Shared) : Prop := ∃ H', Inv X pins σ H' s' ∧ Q b H'
def AP (X : Cx) (pins : List (Addr × Obj)) (σ : St) (Q : List V → Hp → Prop) (us : List Value) (s' : Shared) : Prop := ∃ vs H', Inv X pins σ H' s' ∧ Vals vs us ∧ Q vs H'
def SP (X : Cx) (pins : List (Addr × Obj)) (D : Ends) (f : Flow) (s' : Shared) : Prop :=
  match f with
  | .next => ∃ σ' H', Inv X pins σ' H' s' ∧ D.nx σ' H'
  | .brk => ∃ σ' H', Inv X pins σ' H' s' ∧ D.bk σ' H'
  | .cont => ∃ σ' H', Inv X pins σ' H' s' ∧ D.ct σ' H'
  | .ret u => ∃ v σ' H', Inv X pins σ' H' s' ∧ RelV v u ∧ D.rt v H'

def PE (X : Cx) (e : Expr) (t : TE) : Prop :=
  ∀ (pins : List (Addr × Obj)) (s : Shared) (σ : St) (H : Hp) (Q : VK), Inv X pins σ H s → t σ H Q → wpAny (model X.prog X.w) X.A (eval e X.env) (EP X pins σ Q) X.xe s
def PT (X : Cx) (e : Expr) (t : TT) : Prop :=
  ∀ (pins : List (Addr × Obj)) (s : Shared) (σ : St) (H : Hp) (Q : Bool → Hp → Prop), Inv X pins σ H s → t σ H Q → wpAny (model X.prog X.w) X.A (isTrue e X.env (eval e X.env)) (TP X pins σ Q) X.xe s
/-- a test whatever its 'whole' is (and, or) -/
def PW (X : Cx) (e : Expr) (t : TT) : Prop :=
  ∀ (whole : Sem Value) (pins : List (Addr × Obj)) (s : Shared) (σ : St) (H : Hp) (Q : Bool → Hp → Prop), Inv X pins σ H s → t σ H Q → wpAny (model X.prog X.w) X.A (isTrue e X.env whole) (TP X pins σ Q) X.xe s
theorem PW.pt {X : Cx} {e : Expr} {t : TT} (h : PW X e t) : PT X e t := h _
/-- an argument list (no star), from the left -/
def PA (X : Cx) (es : List Expr) (t : TA) : Prop :=
  ∀ (pos : Pos) (pins : List (Addr × Obj)) (s : Shared) (σ : St) (H : Hp) (Q : List V → Hp → Prop), Inv X pins σ H s → t σ H Q → wpAny (model X.prog X.w) X.A (spliced (backTo pos (starEach es X.env))) (AP X pins σ Q) X.xe s
def PS (X : Cx) (st : Stmt) (t : TS) : Prop :=
  ∀ (pins : List (Addr × Obj)) (s : Shared) (σ : St) (H : Hp) (D : Ends), Inv X pins σ H s → t D σ H → wpAny (model X.prog X.w) X.A (exec st X.env) (SP X pins D) X.xe s
def PSs (X : Cx) (st : List Stmt) (t : TS) : Prop :=
  ∀ (pins : List (Addr × Obj)) (s : Shared) (σ : St) (H : Hp) (D : Ends), Inv X pins σ H s → t D σ H → wpAny (model X.prog X.w) X.A (execs st X.env) (SP X pins D) X.xe s
/-- weaken the end -/
theorem thn {α : Type} {t : Sem α} {Q Q' : α → Shared → Prop} {M : Model} {A : Around} {E : Value → Shared → Prop} {s : Shared} (h : wpAny M A t Q E s) (hQ : ∀ a s, Q a s → Q' a s) : wpAny M A t Q' E s := wpAny_mono h hQ fun _ _ x => x
end L2
namespace L2
open PySem PySem.Spec PyProof.Rows
section
variable {X : Cx}
/-- two expressions in a row -/
theorem bin {a b : Expr} {ta tb : TE} (ha : PE X a ta) (hb : PE X b tb) {pins : List (Addr × Obj)} {s : Shared} {σ : St} {H : Hp} {R : V → V → Hp → Prop} (I : Inv X pins σ H s) (h : ta σ H fun x H1 => tb σ H1 fun y H2 => R x y H2)
    {α : Type} {Q : α → Shared → Prop} {f : Value → Value → Sem α}
    (hf : ∀ v u s2 x y H2, Inv X pins σ H2 s2 → RelV x v → RelV y u → R x y H2 → wpAny (model X.prog X.w) X.A (f v u) Q X.xe s2) :
    wpAny (model X.prog X.w) X.A (eval a X.env) (fun v s₁ => wpAny (model X.prog X.w) X.A (eval b X.env) (fun u s₂ => wpAny (model X.prog X.w) X.A (f v u) Q X.xe s₂) X.xe s₁) X.xe s := by
  refine thn (ha pins s σ H _ I h) fun v s1 ⟨x, H1, I1, r1, q1⟩ => ?_
  refine thn (hb pins s1 σ H1 _ I1 q1) fun u s2 ⟨y, H2, I2, r2, q2⟩ => ?_
  exact hf v u s2 x y H2 I2 r1 r2 q2

def tVar (i : Nat) : TE := fun σ H Q => ∃ v, σ[i]? = some (some v) ∧ Q v H
def tC (v : V) : TE := fun _ H Q => Q v H
theorem pe_var {i : Nat} {x : Str} {pos : Pos} (hN : X.N[i]? = some x) (hv : Vis X.env.scope x) (hd : (x == ("__debug__" : Str)) = false := by decide) (hcd : (x == ("__classdict__" : Str)) = false := by decide) : PE X (.Name x pos) (tVar i) := by
  intro pins s σ H Q I h
  obtain ⟨v, e, h⟩ := h
  obtain ⟨m, hn, hl⟩ := I.loc
  obtain ⟨u, r, l⟩ := hl i x v hN e hv
  have fin : EP X pins σ Q u s := ⟨v, H, I, r, h⟩
  rcases l with ⟨hk, hm⟩ | ⟨hk, c, hc, hcell⟩
  · exact wpAny_Name (wpAny_loadName_local I.ok.kind hk hn hm fin) hd
  · rcases hk with hk | hk
    · exact wpAny_Name (wpAny_loadName_cell I.ok.kind hk hc hcell fin) hd
    · exact wpAny_Name (wpAny_loadName_free I.ok.kind hk hc hcell fin hcd) hd
theorem pe_int {i j pos} : PE X (.Constant (.int i) j pos) (tC (.int i)) := fun _ _ _ H _ I h => wpAny_Constant_int ⟨.int i, H, I.tok _, ⟨_, rfl⟩, h⟩
theorem pe_bl {b j pos} : PE X (.Constant (.bool b) j pos) (tC (.bl b)) := fun _ _ _ H _ I h => Constant_bool ⟨.bl b, H, I, rfl, h⟩
theorem pe_non {j pos} : PE X (.Constant .none j pos) (tC .non) := fun _ _ _ H _ I h => Constant_none ⟨.non, H, I, rfl, h⟩
theorem pe_str {x j pos} : PE X (.Constant (.str x) j pos) (tC (.str x)) := fun _ _ _ H _ I h => Calls.Constant_str ⟨.str x, H, I.tok _, ⟨_, rfl⟩, h⟩

/-- a global name of the def -/
def Gl (X : Cx) (x : Str) : Prop := X.env.kindOf x = some .globalImplicit
theorem ld_glob {E : Value → Shared → Prop} {pins : List (Addr × Obj)} {s : Shared} {σ : St} {H : Hp} {x : Str} {u : Value} {pos : Pos} {Q : Value → Shared → Prop} (I : Inv X pins σ H s) (hg : Gl X x) (hm : X.mg x = some u) (h : Q u s)
    (hd : (x == ("__debug__" : Str)) = false := by decide) : wpAny (model X.prog X.w) X.A (eval (.Name x pos) X.env) Q E s :=
  Calls.Name_function_global I.ok.kind hg (Calls.loadGlobal_global (by rw [I.ok.glob]; exact I.mod.glob.keeps I.bk) hm h) hd
theorem ld_blt {E : Value → Shared → Prop} {pins : List (Addr × Obj)} {s : Shared} {σ : St} {H : Hp} {x : Str} {u : Value} {pos : Pos} {Q : Value → Shared → Prop} (I : Inv X pins σ H s) (hg : Gl X x) (hm : X.mg x = none) (hv : bootBuiltins x = some u) (h : Q u s)
    (hn : x ≠ "__name__" := by decide) (hd : (x == ("__debug__" : Str)) = false := by decide) : wpAny (model X.prog X.w) X.A (eval (.Name x pos) X.env) Q E s := by
  obtain ⟨mb, h1, h2⟩ := I.mod.blt
  exact Calls.Name_function_global I.ok.kind hg (Calls.loadGlobal_builtin (by rw [I.ok.glob]; exact I.mod.glob.keeps I.bk) hm (by rw [I.ok.blt]; exact h1.keeps I.bk) ((h2 x hn).trans hv) h) hd
/-- a module's constant, a class, a function, as a value -/
theorem pe_glob {x : Str} {v : V} {u : Value} {pos : Pos} (hg : Gl X x) (hm : X.mg x = some u) (r : RelV v u) (hd : (x == ("__debug__" : Str)) = false := by decide) : PE X (.Name x pos) (tC v) :=
  fun _ _ _ H _ I h => ld_glob I hg hm ⟨v, H, I, r, h⟩ hd
theorem pe_bltn {x : Str} {v : V} {u : Value} {pos : Pos} (hg : Gl X x) (hm : X.mg x = none) (hv : bootBuiltins x = some u) (r : RelV v u) (hn : x ≠ "__name__" := by decide) (hd : (x == ("__debug__" : Str)) = false := by decide) : PE X (.Name x pos) (tC v) :=
  fun _ _ _ H _ I h => ld_blt I hg hm hv ⟨v, H, I, r, h⟩ hn hd

variable {a b : Expr} {ta tb : TE} {pos : Pos}
variable {tA tB' : TT} {rest : List Expr}
def tAnd (t u : TT) : TT := fun σ H Q => t σ H fun c H1 => if c = true then u σ H1 Q else Q false H1
def tOr (t u : TT) : TT := fun σ H Q => t σ H fun c H1 => if c = true then Q true H1 else u σ H1 Q
def tNot (t : TT) : TT := fun σ H Q => t σ H fun c H1 => Q (!c) H1
theorem pw_and1 (ha : PT X a tA) : PW X (.BoolOp .And [a] pos) tA := by
  intro wh pins s σ H Q I h
  refine isTrue_and (thn (ha pins s σ H Q I h) fun c s1 e => ?_)
  cases c with
  | true => exact isTrue_and_nil e
  | false => exact e
theorem pw_or1 (ha : PT X a tA) : PW X (.BoolOp .Or [a] pos) tA := by
  intro wh pins s σ H Q I h
  refine isTrue_or (thn (ha pins s σ H Q I h) fun c s1 e => ?_)
  cases c with
  | false => exact isTrue_or_nil e
  | true => exact e
theorem pw_and (ha : PT X a tA) (hb : PW X (.BoolOp .And (b :: rest) pos) tB') : PW X (.BoolOp .And (a :: b :: rest) pos) (tAnd tA tB') := by
  intro wh pins s σ H Q I h
  refine isTrue_and (thn (ha pins s σ H _ I h) fun c s1 ⟨H1, I1, q1⟩ => ?_)
  cases c with
  | true => exact hb wh pins s1 σ H1 Q I1 q1
  | false => exact ⟨H1, I1, q1⟩
theorem pw_or (ha : PT X a tA) (hb : PW X (.BoolOp .Or (b :: rest) pos) tB') : PW X (.BoolOp .Or (a :: b :: rest) pos) (tOr tA tB') := by
  intro wh pins s σ H Q I h
  refine isTrue_or (thn (ha pins s σ H _ I h) fun c s1 ⟨H1, I1, q1⟩ => ?_)
  cases c with
  | true => exact ⟨H1, I1, q1⟩
  | false => exact hb wh pins s1 σ H1 Q I1 q1
theorem pt_not (ha : PT X a tA) : PT X (.UnaryOp .Not a pos) (tNot tA) := by
  intro pins s σ H Q I h
  exact isTrue_not (ha pins s σ H (fun c H1 => Q (!c) H1) I h)
theorem pe_one {op} {t : TE} (h : PE X a t) : PE X (.BoolOp op [a] pos) t := fun pins s σ H Q I hw => BoolOp_one (h pins s σ H Q I hw)
/-- a if t else b -/
def tIf (t : TT) (ta tb : TE) : TE := fun σ H Q => t σ H fun c H1 => if c = true then ta σ H1 Q else tb σ H1 Q
theorem pe_ifExp {c : Expr} (hc : PT X c tA) (ha : PE X a ta) (hb : PE X b tb) : PE X (.IfExp c a b pos) (tIf tA ta tb) := by
  intro pins s σ H Q I h
  refine wpAny_IfExp (thn (hc pins s σ H _ I h) fun d s1 ⟨H1, I1, q1⟩ => ?_)
  cases d with
  | true => exact ha pins s1 σ H1 Q I1 q1
  | false => exact hb pins s1 σ H1 Q I1 q1
end
end L2
namespace L2
open PySem PySem.Spec PyProof.Rows
def SqL (K : PySem.W.Frag) (H : Hp) (a : Addr) (xs : List V) : Prop :=
  Rd H a (.lst xs) ∨
    ∃ (o : Obj) (its : Array Value) (n : Nat), K.lookup a = some o ∧ o.cls = .type "list" ∧ o.dict = none ∧ o.data = .seq its n ∧ its.size ≤ sizeLine ∧ Vals xs its.toList
def SqT (K : PySem.W.Frag) (H : Hp) (a : Addr) (xs : List V) : Prop :=
  Rd H a (.tup xs) ∨
    ∃ (o : Obj) (its : Array Value) (n : Nat), K.lookup a = some o ∧ o.cls = .type "tuple" ∧ o.data = .seq its n ∧ its.size ≤ sizeLine ∧ Vals xs its.toList
def absV : Value → Option V
  | .none => some .non
  | .bool b => some (.bl b)
  | .int i _ => some (.int i)
  | .str x _ => some (.str x)
  | .bytes b _ => some (.byt b)
  | .float b _ => some (.flt b)
  | .ref a => some (.ref a)
  | .type n => some (.ty n)
  | _ => none
theorem RelV.abs {x : V} {u : Value} (r : RelV x u) : absV u = some x := by
  cases x with
  | non => cases r; rfl
  | bl _ => cases r; rfl
  | int _ => obtain ⟨t, rfl⟩ := r; rfl
  | str _ => obtain ⟨t, rfl⟩ := r; rfl
  | byt _ => obtain ⟨t, rfl⟩ := r; rfl
  | flt _ => obtain ⟨t, rfl⟩ := r; rfl
  | ref _ => cases r; rfl
  | ty _ => cases r; rfl
theorem RelV.inj {x y : V} {u : Value} (r : RelV x u) (q : RelV y u) : x = y := Option.some.inj (r.abs.symm.trans q.abs)
theorem Vals.inj : ∀ {xs ys : List V} {us : List Value}, Vals xs us → Vals ys us → xs = ys
  | _, _, _, .nil, .nil => rfl
  | _, _, _, .cons r t, .cons r' t' => by rw [r.inj r', Vals.inj t t']
section
variable {X : Cx} {pins : List (Addr × Obj)} {σ : St} {H : Hp} {s : Shared} {a : Addr} {xs ys : List V}
theorem SqL.of {K : PySem.W.Frag} (h : H a = some (.lst xs)) : SqL K H a xs := .inl (.inl h)
theorem SqT.of {K : PySem.W.Frag} (h : H a = some (.tup xs)) : SqT K H a xs := .inl (.inl h)
theorem Inv.list (I : Inv X pins σ H s) (h : SqL X.K H a xs) : ∃ its : List Value, Vals xs its ∧ PlainL s.heap a its.toArray ∧ xs.length ≤ sizeLine := by
  rcases h with h | ⟨o, its, n, hk, hc, hd, hs, hz, r⟩
  · obtain ⟨z, its, n, r, e⟩ := h.ok I.hok
    exact ⟨its, r, ⟨_, n, e, rfl, rfl, rfl⟩, z⟩
  · refine ⟨its.toList, r, ⟨o, n, I.kIn a o hk, hc, hd, by simpa using hs⟩, ?_⟩
    have e := r.length
    simp only [Array.length_toList] at e
    omega
theorem Inv.tuple (I : Inv X pins σ H s) (h : SqT X.K H a xs) : ∃ its : List Value, Vals xs its ∧ IsTup s.heap a its.toArray ∧ xs.length ≤ sizeLine := by
  rcases h with h | ⟨o, its, n, hk, hc, hs, hz, r⟩
  · obtain ⟨z, its, r, p⟩ := h.ok I.hok
    exact ⟨its, r, p, z⟩
  · refine ⟨its.toList, r, ⟨o, I.kIn a o hk, hc, n, by simpa using hs⟩, ?_⟩
    have e := r.length
    simp only [Array.length_toList] at e
    omega
theorem Inv.list_inj (I : Inv X pins σ H s) (h : SqL X.K H a xs) (h' : SqL X.K H a ys) : xs = ys := by
  obtain ⟨its, r, ⟨o, n, e, _, _, d⟩, _⟩ := I.list h
  obtain ⟨its', r', ⟨o', n', e', _, _, d'⟩, _⟩ := I.list h'
  rw [e] at e'; cases e'
  rw [d] at d'
  injection d' with d1 _
  have : its = its' := by simpa using congrArg Array.toList d1
  subst this
  exact r.inj r'
theorem Inv.tuple_inj (I : Inv X pins σ H s) (h : SqT X.K H a xs) (h' : SqT X.K H a ys) : xs = ys := by
  obtain ⟨its, r, ⟨o, e, _, n, d⟩, _⟩ := I.tuple h
  obtain ⟨its', r', ⟨o', e', _, n', d'⟩, _⟩ := I.tuple h'
  rw [e] at e'; cases e'
  rw [d] at d'
  injection d' with d1 _
  have : its = its' := by simpa using congrArg Array.toList d1
  subst this
  exact r.inj r'
end
abbrev Cx.wish (X : Cx) (E : Value → Shared → Prop) : Cx := { X with xe := E }
/-- no exception leaves -/
abbrev Cx.nox (X : Cx) : Cx := X.wish fun _ _ => False
theorem Cx.Ok.wish {X : Cx} (ok : X.Ok) (E : Value → Shared → Prop) : (X.wish E).Ok :=
  ⟨ok.mod, ok.kind, ok.glob, ok.blt, ok.above, ok.inj, ok.has, ok.cab, ok.hd, ok.frames, ok.stk, ok.exf, ok.bs, ok.bsz, ok.noex, ok.exfs, ok.funs, ok.frf⟩
theorem Cx.Ok.unwish {X : Cx} {E : Value → Shared → Prop} (ok : (X.wish E).Ok) : X.Ok :=
  ⟨ok.mod, ok.kind, ok.glob, ok.blt, ok.above, ok.inj, ok.has, ok.cab, ok.hd, ok.frames, ok.stk, ok.exf, ok.bs, ok.bsz, ok.noex, ok.exfs, ok.funs, ok.frf⟩
section
variable {X : Cx} {pins : List (Addr × Obj)} {σ : St} {H : Hp} {s : Shared} {E : Value → Shared → Prop}
theorem Inv.wish (I : Inv X pins σ H s) (E : Value → Shared → Prop) : Inv (X.wish E) pins σ H s := ⟨I.ok.wish E, I.os, I.bare, I.base, I.loc, I.cell, I.free, I.freeC, I.pin, I.hok, I.len⟩
theorem Inv.unwish (I : Inv (X.wish E) pins σ H s) : Inv X pins σ H s := ⟨I.ok.unwish, I.os, I.bare, I.base, I.loc, I.cell, I.free, I.freeC, I.pin, I.hok, I.len⟩
theorem SP.unwish {D : Ends} {f : Flow} {s' : Shared} (h : SP (X.wish E) pins D f s') : SP X pins D f s' := by
  cases f with
  | next => obtain ⟨σ', H', I, q⟩ := h; exact ⟨σ', H', I.unwish, q⟩
  | brk => obtain ⟨σ', H', I, q⟩ := h; exact ⟨σ', H', I.unwish, q⟩
  | cont => obtain ⟨σ', H', I, q⟩ := h; exact ⟨σ', H', I.unwish, q⟩
  | ret u => obtain ⟨v, σ', H', I, r, q⟩ := h; exact ⟨v, σ', H', I.unwish, r, q⟩
theorem PE.nox {e : Expr} {t : TE} (h : PE X.nox e t) : PE X e t := fun pins s σ H Q I hw =>
  wpAny_mono (h pins s σ H Q (I.wish _) hw) (fun _ _ ⟨v, H', I', r, q⟩ => ⟨v, H', I'.unwish, r, q⟩) fun _ _ z => False.elim z
theorem PT.nox {e : Expr} {t : TT} (h : PT X.nox e t) : PT X e t := fun pins s σ H Q I hw =>
  wpAny_mono (h pins s σ H Q (I.wish _) hw) (fun _ _ ⟨H', I', q⟩ => ⟨H', I'.unwish, q⟩) fun _ _ z => False.elim z
theorem PSs.nox {st : List Stmt} {t : TS} (h : PSs X.nox st t) : PSs X st t := fun pins s σ H D I hw =>
  wpAny_mono (h pins s σ H D (I.wish _) hw) (fun _ _ q => q.unwish) fun _ _ z => False.elim z
end
section
variable {X : Cx} {st : Stmt} {rest : List Stmt} {t u : TS} {e : Expr} {te : TE} {pos : Pos}
def tNext : TS := fun D σ H => D.nx σ H
def tSeq (t u : TS) : TS := fun D σ H => t { D with nx := u D } σ H
theorem pss_nil : PSs X [] tNext := fun _ _ σ H _ I h => wpAny_execs_nil ⟨σ, H, I, h⟩
theorem pss_cons (h1 : PS X st t) (h2 : PSs X rest u) : PSs X (st :: rest) (tSeq t u) := by
  intro pins s σ H D I h
  refine wpAny_execs_cons (thn (h1 pins s σ H { D with nx := u D } I h) fun f s1 q => ?_)
  cases f with
  | next =>
    obtain ⟨σ', H', I', q⟩ := q
    exact h2 pins s1 σ' H' D I' q
  | ret v => exact q
  | brk => exact q
  | cont => exact q
def tBreak : TS := fun D σ H => D.bk σ H
def tCont : TS := fun D σ H => D.ct σ H
theorem ps_pass : PS X (.Pass pos) tNext := fun _ _ σ H _ I h => wpAny_Pass ⟨σ, H, I, h⟩
theorem ps_break : PS X (.Break pos) tBreak := fun _ _ σ H _ I h => wpAny_Break ⟨σ, H, I, h⟩
theorem ps_continue : PS X (.Continue pos) tCont := fun _ _ σ H _ I h => wpAny_Continue ⟨σ, H, I, h⟩
/-- in a def's body nothing is shown -/
theorem Inv.quiet {pins : List (Addr × Obj)} {σ : St} {H : Hp} {s : Shared} (I : Inv X pins σ H s) : interactive X.env = false := by simp [interactive, I.ok.kind]
/-- an expression whose value is dropped -/
def tDrop (te : TE) : TS := fun D σ H => te σ H fun _ H1 => D.nx σ H1
theorem ps_expr (he : PE X e te) (hs : swapsWith e none pos.line X.env = pure false := by rfl) : PS X (.Expr e pos) (tDrop te) := by
  intro pins s σ H D I h
  exact wpAny_Expr_any (thn (he pins s σ H _ I h) fun v s1 ⟨x, H1, I1, r1, q1⟩ => ⟨σ, H1, I1, q1⟩) I.quiet hs
def tRet (te : TE) : TS := fun D σ H => te σ H D.rt
theorem ps_ret (he : PE X e te) : PS X (.Return (some e) pos) (tRet te) := by
  intro pins s σ H D I h
  exact wpAny_Return_some (thn (he pins s σ H _ I h) fun v s1 ⟨x, H1, I1, r1, q1⟩ => ⟨x, σ, H1, I1, r1, q1⟩)
def tIfS (c : TT) (t u : TS) : TS := fun D σ H => c σ H fun b H1 => if b = true then t D σ H1 else u D σ H1
theorem ps_if {c : Expr} {a b : List Stmt} {tc : TT} (hc : PT X c tc) (ha : PSs X a t) (hb : PSs X b u) : PS X (.If c a b pos) (tIfS tc t u) := by
  intro pins s σ H D I h
  refine wpAny_If (thn (hc pins s σ H _ I h) fun d s1 ⟨H1, I1, q1⟩ => ?_)
  cases d with
  | true => exact ha pins s1 σ H1 D I1 q1
  | false => exact hb pins s1 σ H1 D I1 q1
/-- code that the proof never comes to -/
def tNever : TS := fun _ _ _ => False
theorem ps_never : PS X st tNever := fun _ _ _ _ _ _ h => h.elim
end
abbrev TG := V → St → Hp → (St → Hp → Prop) → Prop
abbrev TGs := List V → St → Hp → (St → Hp → Prop) → Prop
def PG (X : Cx) (target : Expr) (t : TG) : Prop :=
  ∀ (pins : List (Addr × Obj)) (s : Shared) (σ : St) (H : Hp) (v : V) (u : Value) (Q : St → Hp → Prop), Inv X pins σ H s → RelV v u → t v σ H Q →
    wpAny (model X.prog X.w) X.A (assign target X.env u) (fun _ s' => ∃ σ' H', Inv X pins σ' H' s' ∧ Q σ' H') X.xe s
/-- several targets, one after another -/
def PGs (X : Cx) (ts : List Expr) (t : TGs) : Prop :=
  ∀ (pins : List (Addr × Obj)) (s : Shared) (σ : St) (H : Hp) (vs : List V) (us : List Value) (Q : St → Hp → Prop), Inv X pins σ H s → Vals vs us → t vs σ H Q →
    wpAny (model X.prog X.w) X.A (assignInOrder ((assignEach ts X.env).map (·.2)) us) (fun _ s' => ∃ σ' H', Inv X pins σ' H' s' ∧ Q σ' H') X.xe s
/-- o[i] = v, by values -/
abbrev TSet := V → V → V → Hp → (Hp → Prop) → Prop
def PSet (X : Cx) (t : TSet) : Prop :=
  ∀ (pins : List (Addr × Obj)) (s : Shared) (σ : St) (H : Hp) (o i v : V) (ov iv u : Value) (Q : Hp → Prop), Inv X pins σ H s → RelV o ov → RelV i iv → RelV v u → t o i v H Q →
    wpAny (model X.prog X.w) X.A (setItem ov iv u) (fun _ s' => ∃ H', Inv X pins σ H' s' ∧ Q H') X.xe s
section
variable {X : Cx} {pos : Pos}
def gName (i : Nat) : TG := fun v σ H Q => Q (σ.set i (some v)) H
theorem pg_name {i : Nat} {x : Str} (hN : X.N.Nodup) (hi : X.N[i]? = some x) (hx : Loc X.env.scope x) (hf : X.fn x = true ∨ X.env.scope.names.lookup x = some .local := by first | exact .inl rfl | exact .inr rfl | assumption) : PG X (.Name x pos) (gName i) := by
  intro pins s σ H v u Q I r h
  exact wpAny_assign_Name (store_ok I hN hi hx r (fun s' I' => ⟨_, H, I', h⟩) hf)
def gNil : TGs := fun vs σ H Q => vs = [] ∧ Q σ H
def gCons (t : TG) (u : TGs) : TGs := fun vs σ H Q => ∃ v r, vs = v :: r ∧ t v σ H fun σ' H' => u r σ' H' Q
theorem pgs_nil : PGs X [] gNil := by
  intro pins s σ H vs us Q I r h
  obtain ⟨e, h⟩ := h
  subst e
  cases r
  exact assignInOrder_nil ⟨σ, H, I, h⟩
theorem pgs_cons {e : Expr} {es : List Expr} {t : TG} {u : TGs} (h1 : PG X e t) (h2 : PGs X es u)
    (hs : (assignEach (e :: es) X.env).map (·.2) = assign e X.env :: (assignEach es X.env).map (·.2) := by rfl) : PGs X (e :: es) (gCons t u) := by
  intro pins s σ H vs us Q I r h
  obtain ⟨v, vr, e1, h⟩ := h
  subst e1
  cases r with
  | cons r rr =>
    rw [hs]
    refine assignInOrder_cons (thn (h1 pins s σ H _ _ _ I r h) fun _ s1 ⟨σ1, H1, I1, q1⟩ => ?_)
    exact h2 pins s1 σ1 H1 _ _ Q I1 rr q1
/-- (a, b, ..) = a tuple of that length -/
def gTup (K : PySem.W.Frag) (n : Nat) (t : TGs) : TG := fun v σ H Q => ∃ a xs, v = .ref a ∧ SqT K H a xs ∧ xs.length = n ∧ t xs σ H Q
theorem pg_tup {es : List Expr} {k : Nat} {t : TGs} {n : Nat} (hc : X.calm = true) (h : PGs X es t)
    (hn : (assignEach es X.env).length = n := by rfl) (hst : (assignEach es X.env).findIdx? (·.1) = none := by rfl) : PG X (.Tuple es k pos) (gTup X.K n t) := by
  intro pins s σ H v u Q I r hw
  obtain ⟨a, xs, e1, hq, hl, hw⟩ := hw
  subst e1
  cases r
  obtain ⟨its, rv, ht, hz⟩ := I.tuple hq
  refine assign_Tuple_tuple (I.ok.hd hc) ht (by simp [hn, ← hl, rv.length]) hst fun h' hx => ?_
  have I1 : Inv X pins σ H { s with heap := h' } := I.kept (t' := s.toks) fun b o e => hx b o (Nat.ne_of_lt (Heap.lt_size e)) e
  exact h pins _ σ H xs _ Q I1 (by simpa using rv) hw
/-- o[i] = .. -/
def gSub (to ti : TE) (t : TSet) : TG := fun v σ H Q => to σ H fun o H1 => ti σ H1 fun i H2 => t o i v H2 fun H3 => Q σ H3
theorem pg_sub {o i : Expr} {to ti : TE} {t : TSet} (ho : PE X o to) (hi : PE X i ti) (hs : PSet X t)
    (ha : ∀ v, assign (.Subscript o i pos) X.env v = (do
      let ov ← holding [v] (eval o X.env)
      let iv ← holding [v, ov] (eval i X.env)
      standAt pos
      holding [v, ov, iv] (setItem ov iv v)
      release [v, ov, iv] []) := by intro _; rfl) : PG X (.Subscript o i pos) (gSub to ti t) := by
  intro pins s σ H v u Q I r h
  rw [ha]
  refine wpAny_bind (wpAny_holding (thn (ho pins s σ H _ I h) fun ov s1 ⟨x, H1, I1, r1, q1⟩ => ?_))
  refine wpAny_bind (wpAny_holding (thn (hi pins s1 σ H1 _ I1 q1) fun iv s2 ⟨y, H2, I2, r2, q2⟩ => ?_))
  refine wpAny_bind (wpAny_standAt (wpAny_bind (wpAny_holding (thn (hs pins s2 σ H2 x y v ov iv u _ I2 r1 r2 r q2) fun _ s3 ⟨H3, I3, q3⟩ => ?_))))
  exact wpAny_release ⟨σ, H3, I3, q3⟩
/-- target = value -/
def tAsg (te : TE) (g : TG) : TS := fun D σ H => te σ H fun x H1 => g x σ H1 D.nx
theorem ps_asg {tg e : Expr} {te : TE} {g : TG} (he : PE X e te) (hg : PG X tg g) (hs : swapsWithSole [tg] e pos.line X.env = pure false := by rfl) (hw : swappedStores [tg] e X.env = pure none := by rfl)
    (h1 : (assignEach [tg] X.env).map (·.2) = [assign tg X.env] := by rfl) : PS X (.Assign [tg] e pos) (tAsg te g) := by
  intro pins s σ H D I h
  refine wpAny_Assign_stores (thn (he pins s σ H _ I h) fun v s1 ⟨x, H1, I1, r1, q1⟩ => ?_) hs hw
  rw [h1]
  exact thn (hg pins s1 σ H1 x v _ I1 r1 q1) fun _ s2 q => q
/-- name = value -/
theorem ps_set {i : Nat} {x : Str} {e : Expr} {te : TE} {pos' : Pos} (hN : X.N.Nodup) (hi : X.N[i]? = some x) (hx : Loc X.env.scope x) (he : PE X e te) (hs : swapsWith e (some (.Name x pos')) pos.line X.env = pure false := by rfl) (hf : X.fn x = true ∨ X.env.scope.names.lookup x = some .local := by first | exact .inl rfl | exact .inr rfl | assumption) :
    PS X (.Assign [.Name x pos'] e pos) (tAsg te (gName i)) := by
  intro pins s σ H D I h
  refine wpAny_Assign_Name (thn (he pins s σ H _ I h) fun v s1 ⟨y, H1, I1, r1, q1⟩ => ?_) hs
  exact store_ok I1 hN hi hx r1 (fun s2 I2 => ⟨_, H1, I2, q1⟩) hf
end
section
variable {X : Cx} {pos : Pos}
/-- the invariant W with its measure -/
def tWhile (c : TT) (tb : TS) : TS := fun D σ H => ∃ W : Nat → St → Hp → Prop, (∃ m, W m σ H) ∧ ∀ m σ H, W m σ H →
  c σ H fun b H1 => if b = true then ∃ N : St → Hp → Prop, (∀ σ' H', N σ' H' → ∃ m', m' < m ∧ W m' σ' H') ∧ tb { D with nx := N, ct := N, bk := D.nx } σ H1 else D.nx σ H1
theorem ps_while {c : Expr} {body : List Stmt} {tc : TT} {tb : TS} (hp : PassesOwn (model X.prog X.w) X.A X.env X.xe) (hc : PT X c tc) (hb : PSs X body tb) : PS X (.While c body [] pos) (tWhile tc tb) := by
  intro pins s σ H D I h
  obtain ⟨W, ⟨m0, w0⟩, turn⟩ := h
  refine wpAny_While (codeAny_whileLoop (fun n s' => ∃ σ' H', Inv X pins σ' H' s' ∧ W n σ' H') ?_ m0 ⟨σ, H, I, w0⟩)
  rintro n s1 ⟨σ1, H1, I1, w1⟩
  refine wpAny_passesOwn hp (thn (hc pins s1 σ1 H1 _ I1 (turn n σ1 H1 w1)) fun b s2 ⟨H2, I2, q2⟩ => ?_)
  cases b with
  | true =>
    obtain ⟨N, hN, q2⟩ := q2
    rw [if_pos rfl]
    refine wpAny_passesOwn hp (thn (hb pins s2 σ1 H2 _ I2 q2) fun f s3 q3 => ?_)
    cases f with
    | next =>
      obtain ⟨σ3, H3, I3, n3⟩ := q3
      obtain ⟨m', hm, w3⟩ := hN σ3 H3 n3
      exact ⟨m', hm, σ3, H3, I3, w3⟩
    | cont =>
      obtain ⟨σ3, H3, I3, n3⟩ := q3
      obtain ⟨m', hm, w3⟩ := hN σ3 H3 n3
      exact ⟨m', hm, σ3, H3, I3, w3⟩
    | brk => exact q3
    | ret v => exact q3
  | false =>
    rw [if_neg Bool.false_ne_true]
    exact wpAny_execs_nil ⟨σ1, H2, I2, q2⟩
end
/-- at turn i: it yields x (the heap may grow), or it stops -/
structure It where
  go : Nat → Hp → Prop
  yld : Nat → Hp → V → Hp → Prop
  stop : Nat → Hp → Prop
/-- the iterator's own objects may turn: they are not the frame's, not pinned, younger than the entry (or a comprehension's own) -/
def FpOk (X : Cx) (pins : List (Addr × Obj)) (H : Hp) (b : Addr) : Prop :=
  H b = none ∧ b ≠ X.env.locals ∧ b ∉ X.fs ∧ (b ∈ X.ex ∨ X.s₀.heap.objs.size ≤ b) ∧ (∀ x c, X.env.cells.lookup x = some c → c ≠ b) ∧ ∀ p ∈ X.pn ++ pins, p.1 ≠ b
theorem Inv.fpOk {X : Cx} {pins : List (Addr × Obj)} {σ : St} {H H' : Hp} {s : Shared} {b : Addr} (I : Inv X pins σ H s) (hb : s.heap.objs.size ≤ b) (hn : H' b = none) : FpOk X pins H' b := by
  refine ⟨hn, Nat.ne_of_gt (Nat.lt_of_lt_of_le I.lt hb), I.nofs hb, .inr (Nat.le_trans I.sz hb), fun x c e z => ?_, fun p hp z => ?_⟩
  · obtain ⟨v, q⟩ := I.cell x c e
    exact absurd (Nat.lt_of_lt_of_le q.lt (by rw [z]; exact hb)) (Nat.lt_irrefl _)
  · exact absurd (Nat.lt_of_lt_of_le (Heap.lt_size (I.pin p hp).1) (by rw [z]; exact hb)) (Nat.lt_irrefl _)
structure Turn (P : Program) (w : World) (K : PySem.W.Frag) (tg : Expr) (J : It) (fp : List Addr) (it : Addr) (tn : Nat → Heap → Prop) : Prop where
  mem : it ∈ fp
  obj : ∀ i h, tn i h → ∀ b ∈ fp, ∃ o, h.get? b = some o ∧ ∀ v, o.data ≠ .cell v
  keep : ∀ i h h', tn i h → (∀ b ∈ fp, ∀ o, h.get? b = some o → h'.get? b = some o) → tn i h'
  item : ∀ (X : Cx), X.prog = P → X.w = w → X.K = K → X.calm = true → ∀ (i : Nat) (pins : List (Addr × Obj)) (s : Shared) (σ : St) (H : Hp) (E : Value → Shared → Prop), Inv X pins σ H s → (∀ b ∈ fp, FpOk X pins H b) → tn i s.heap → J.go i H →
    wpAny (model P w) X.A (pyNext (.ref it)) (fun r s1 => ∃ u, r = some u ∧
      wpAny (model P w) X.A (letOwnedTupleGo tg (.ref it) u) (fun _ s2 => ∃ x H', Inv X pins σ H' s2 ∧ RelV x u ∧ J.yld i H x H' ∧ tn (i + 1) s2.heap ∧ ∀ b ∈ fp, H' b = none) E s1) E s
  done : ∀ (X : Cx), X.prog = P → X.w = w → X.K = K → X.calm = true → ∀ (i : Nat) (pins : List (Addr × Obj)) (s : Shared) (σ : St) (H : Hp) (E : Value → Shared → Prop), Inv X pins σ H s → (∀ b ∈ fp, FpOk X pins H b) → tn i s.heap → J.stop i H →
    wpAny (model P w) X.A (pyNext (.ref it)) (fun r s1 => r = none ∧ Inv X pins σ H s1) E s
  self : ∀ (A : Around) (i : Nat) (s : Shared) (Q : Value → Shared → Prop) (E : Value → Shared → Prop), tn i s.heap → Q (.ref it) s → wpAny (model P w) A (pyIter (.ref it)) Q E s
abbrev TI := St → Hp → (It → Hp → Prop) → Prop
/-- an iterator has come -/
def PIE (X : Cx) (pins : List (Addr × Obj)) (σ : St) (tg : Expr) (R : It → Hp → Prop) (itv : Value) (s2 : Shared) : Prop :=
  ∃ (it : Addr) (fp : List Addr) (tn : Nat → Heap → Prop) (J : It) (H' : Hp), itv = .ref it ∧ Inv X pins σ H' s2 ∧ Turn X.prog X.w X.K tg J fp it tn ∧ tn 0 s2.heap ∧ (∀ b ∈ fp, FpOk X pins H' b) ∧ R J H'
def PI (X : Cx) (tg iter : Expr) (wi : TI) : Prop :=
  ∀ (pins : List (Addr × Obj)) (s : Shared) (σ : St) (H : Hp) (R : It → Hp → Prop), Inv X pins σ H s → wi σ H R →
    wpAny (model X.prog X.w) X.A (eval iter X.env) (fun v s1 => wpAny (model X.prog X.w) X.A (pyIter v) (PIE X pins σ tg R) X.xe s1) X.xe s

/-- the step ahead of the store is nothing for an iterator that keeps no tuple -/
theorem go_of {M : Model} {A : Around} {E : Value → Shared → Prop} {s : Shared} {tg : Expr} {it : Addr} {u : Value} {o : Obj} {n : String} {vs : Array Value} {Q : Unit → Shared → Prop} (ho : s.heap.get? it = some o) (hc : o.cls = .type n) (hd : o.data = .fields vs)
    (hn : ["enumerate", "zip", "dict_itemiterator", "dict_reverseitemiterator", "odict_iterator", "itertools.zip_longest", "itertools.pairwise"].contains n = false) (hQ : Q () s) : wpAny M A (letOwnedTupleGo tg (.ref it) u) Q E s := by
  unfold letOwnedTupleGo
  cases tg <;> first
    | exact wpAny_pure hQ
    | (cases u <;> first
        | exact wpAny_pure hQ
        | (refine wpAny_bind (wpAny_load ho ?_)
           rw [hc, hd]
           show wpAny M A (if (["enumerate", "zip", "dict_itemiterator", "dict_reverseitemiterator", "odict_iterator", "itertools.zip_longest", "itertools.pairwise"].contains n && vs[0]? == some (rawInt _)) = true then _ else _) Q E s
           rw [if_neg (by intro h; rw [hn, Bool.false_and] at h; cases h)]
           exact wpAny_pure hQ))

/-- the list at a, as it stands at each turn (a loop may append to it) -/
def Itl (K : PySem.W.Frag) (a : Addr) : It :=
  ⟨fun i H => ∃ xs x, SqL K H a xs ∧ xs[i]? = some x, fun i H x H' => H' = H ∧ ∀ xs, SqL K H a xs → xs[i]? = some x, fun i H => ∃ xs, SqL K H a xs ∧ xs.length ≤ i⟩
def Itt (K : PySem.W.Frag) (a : Addr) : It :=
  ⟨fun i H => ∃ xs x, SqT K H a xs ∧ xs[i]? = some x, fun i H x H' => H' = H ∧ ∀ xs, SqT K H a xs → xs[i]? = some x, fun i H => ∃ xs, SqT K H a xs ∧ xs.length ≤ i⟩
/-- lo, lo + 1, .. (n of them) -/
def Itr (lo : Int) (n : Nat) : It := ⟨fun i _ => i < n, fun i H x H' => H' = H ∧ x = .int (lo + i), fun i _ => n ≤ i⟩
theorem turn_list {P : Program} {w : World} {K : PySem.W.Frag} {tg : Expr} (a it : Addr) : Turn P w K tg (Itl K a) [it] it (fun i h => h.IsListIter it a i) where
  mem := by simp
  obj := fun i h st b hb => by
    have e : b = it := by simpa using hb
    subst e
    obtain ⟨o, e, c, d⟩ := st
    exact ⟨o, e, fun v z => by rw [d] at z; cases z⟩
  keep := fun i h h' st k => st.at fun o e => k it (by simp) o e
  item := by
    intro X hP hw hK hc i pins s σ H E I hf st hg
    subst hP hw hK
    obtain ⟨xs, x, hq, hx⟩ := hg
    obtain ⟨its, rv, p, hz⟩ := I.list hq
    obtain ⟨u, hu, ru⟩ := rv.get hx
    obtain ⟨f0, f1, f2, f3, f4, f5⟩ := hf it (by simp)
    refine wpAny_pyNext_list_item st p.isList (x := u) (by simpa using hu) fun h' st' sb => ?_
    have I1 : Inv X pins σ H { s with heap := h' } := I.turned (t' := s.toks) (fun b o hb e => (sb.2 b hb).trans e) f0 f1 f3 f4 f5
    obtain ⟨o, e, c, d⟩ := id st'
    exact ⟨u, rfl, go_of (s := { s with heap := h' }) e c d (by decide) ⟨x, H, I1, ru, ⟨rfl, fun ys hy => by rw [I.list_inj hy hq]; exact hx⟩, st', fun b hb => (hf b hb).1⟩⟩
  done := by
    intro X hP hw hK hc i pins s σ H E I hf st hg
    subst hP hw hK
    obtain ⟨xs, hq, hx⟩ := hg
    obtain ⟨its, rv, p, hz⟩ := I.list hq
    obtain ⟨f0, f1, f2, f3, f4, f5⟩ := hf it (by simp)
    have hl := rv.length
    exact wpAny_pyNext_list_end (I.ok.hd hc) st p.isList (by simp; omega) fun h' eb => ⟨rfl, I.turned (t' := s.toks) (fun b o hb e => eb b o hb e) f0 f1 f3 f4 f5⟩
  self := fun _ _ _ _ _ st h => wpAny_pyIter_listiter st h
theorem turn_tuple {P : Program} {w : World} {K : PySem.W.Frag} {tg : Expr} (a it : Addr) : Turn P w K tg (Itt K a) [it] it (fun i h => h.IsTupleIter it a i) where
  mem := by simp
  obj := fun i h st b hb => by
    have e : b = it := by simpa using hb
    subst e
    obtain ⟨o, e, c, d⟩ := st
    exact ⟨o, e, fun v z => by rw [d] at z; cases z⟩
  keep := fun i h h' st k => st.at fun o e => k it (by simp) o e
  item := by
    intro X hP hw hK hc i pins s σ H E I hf st hg
    subst hP hw hK
    obtain ⟨xs, x, hq, hx⟩ := hg
    obtain ⟨its, rv, p, hz⟩ := I.tuple hq
    obtain ⟨u, hu, ru⟩ := rv.get hx
    obtain ⟨f0, f1, f2, f3, f4, f5⟩ := hf it (by simp)
    refine wpAny_pyNext_tuple_item st (show s.heap.IsTuple a its.toArray from p) (x := u) (by simpa using hu) fun h' st' sb => ?_
    have I1 : Inv X pins σ H { s with heap := h' } := I.turned (t' := s.toks) (fun b o hb e => (sb.2 b hb).trans e) f0 f1 f3 f4 f5
    obtain ⟨o, e, c, d⟩ := id st'
    exact ⟨u, rfl, go_of (s := { s with heap := h' }) e c d (by decide) ⟨x, H, I1, ru, ⟨rfl, fun ys hy => by rw [I.tuple_inj hy hq]; exact hx⟩, st', fun b hb => (hf b hb).1⟩⟩
  done := by
    intro X hP hw hK hc i pins s σ H E I hf st hg
    subst hP hw hK
    obtain ⟨xs, hq, hx⟩ := hg
    obtain ⟨its, rv, p, hz⟩ := I.tuple hq
    obtain ⟨f0, f1, f2, f3, f4, f5⟩ := hf it (by simp)
    have hl := rv.length
    exact wpAny_pyNext_tuple_end (I.ok.hd hc) st (show s.heap.IsTuple a its.toArray from p) (by simp; omega) fun h' eb => ⟨rfl, I.turned (t' := s.toks) (fun b o hb e => eb b o hb e) f0 f1 f3 f4 f5⟩
  self := fun _ _ _ _ _ st h => wpAny_pyIter_tupleiter st h
theorem turn_range {P : Program} {w : World} {K : PySem.W.Frag} {tg : Expr} (it : Addr) (lo : Int) (n : Nat) : Turn P w K tg (Itr lo n) [it] it (fun i h => IsRangeIter h it (lo + (i : Nat) * 1) ((n : Int) - (i : Nat)) 1) where
  mem := by simp
  obj := fun i h st b hb => by
    have e : b = it := by simpa using hb
    subst e
    exact ⟨_, st, fun v z => by
      have z' : Data.fields _ = Data.cell v := z
      cases z'⟩
  keep := fun i h h' st k => k it (by simp) _ st
  item := by
    intro X hP hw hK hc i pins s σ H E I hf st hg
    subst hP hw hK
    obtain ⟨f0, f1, f2, f3, f4, f5⟩ := hf it (by simp)
    have W := Walks.range (prog := X.prog) (w := X.w) (I.ok.hd hc) it lo 1 n
    refine W.item i s _ _ hg st fun v h' tk hv st' kk => ?_
    obtain ⟨t, rfl⟩ := hv
    have I1 : Inv X pins σ H { s with heap := h', toks := tk } := I.turned (fun b o hb e => kk b o (by simpa using hb) e) f0 f1 f3 f4 f5
    refine ⟨_, rfl, go_of (s := { s with heap := h', toks := tk }) (n := "range_iterator") st' rfl rfl (by decide) ⟨.int (lo + i), H, I1, ⟨t, ?_⟩, ⟨rfl, rfl⟩, st', fun b hb => (hf b hb).1⟩⟩
    rw [Int.mul_one]
  done := by
    intro X hP hw hK hc i pins s σ H E I hf st hg
    subst hP hw hK
    obtain ⟨f0, f1, f2, f3, f4, f5⟩ := hf it (by simp)
    exact wpAny_pyNext_range_end (I.ok.hd hc) st (by have : n ≤ i := hg; omega) fun h' eb => ⟨rfl, I.turned (t' := s.toks) (fun b o hb e => eb b o hb e) f0 f1 f3 f4 f5⟩
  self := fun _ _ _ _ _ st h => wpAny_pyIter_rangeiter st h
end L2
namespace L2
open PySem PySem.Spec PyProof.Rows
section
variable {X : Cx} {tg : Expr}
def iList (K : PySem.W.Frag) (tl : TE) : TI := fun σ H R => tl σ H fun x H1 => ∃ a, x = .ref a ∧ (∃ xs, SqL K H1 a xs) ∧ R (Itl K a) H1
def iTup (K : PySem.W.Frag) (tl : TE) : TI := fun σ H R => tl σ H fun x H1 => ∃ a, x = .ref a ∧ (∃ xs, SqT K H1 a xs) ∧ R (Itt K a) H1
theorem pi_list {l : Expr} {tl : TE} (hl : PE X l tl) : PI X tg l (iList X.K tl) := by
  intro pins s σ H R I h
  refine thn (hl pins s σ H _ I h) fun v s1 ⟨x, H1, I1, r1, q1⟩ => ?_
  obtain ⟨a, e, ⟨xs, hq⟩, q⟩ := q1
  subst e
  cases r1
  obtain ⟨its, rv, p, hz⟩ := I1.list hq
  refine wpAny_pyIter_list p.isList ?_
  refine ⟨s1.heap.objs.size, [s1.heap.objs.size], _, _, H1, rfl, I1.kept (t' := s1.toks) fun b o e => Heap.get?_push_of_some _ e, turn_list a _, ⟨_, Heap.get?_push_size _ rfl, rfl, rfl⟩, fun b hb => ?_, q⟩
  have e : b = s1.heap.objs.size := by simpa using hb
  subst e
  exact I1.fpOk (Nat.le_refl _) (I1.hok.fresh (Nat.le_refl _))
theorem pi_tup {l : Expr} {tl : TE} (hl : PE X l tl) : PI X tg l (iTup X.K tl) := by
  intro pins s σ H R I h
  refine thn (hl pins s σ H _ I h) fun v s1 ⟨x, H1, I1, r1, q1⟩ => ?_
  obtain ⟨a, e, ⟨xs, hq⟩, q⟩ := q1
  subst e
  cases r1
  obtain ⟨its, rv, p, hz⟩ := I1.tuple hq
  refine wpAny_pyIter_tuple (show s1.heap.IsTuple a its.toArray from p) ?_
  refine ⟨s1.heap.objs.size, [s1.heap.objs.size], _, _, H1, rfl, I1.kept (t' := s1.toks) fun b o e => Heap.get?_push_of_some _ e, turn_tuple a _, ⟨_, Heap.get?_push_size _ rfl, rfl, rfl⟩, fun b hb => ?_, q⟩
  have e : b = s1.heap.objs.size := by simpa using hb
  subst e
  exact I1.fpOk (Nat.le_refl _) (I1.hok.fresh (Nat.le_refl _))
/-- a range object just made, walked -/
theorem range_it {pins : List (Addr × Obj)} {σ : St} {H : Hp} {s : Shared} {R : It → Hp → Prop} {E : Value → Shared → Prop} {lo hi : Int} {t u v : Tok} {tk : Nat} (I : Inv X pins σ H s) (h1 : -(2 ^ 62) ≤ lo) (h2 : lo < 2 ^ 62) (h3 : -(2 ^ 62) ≤ hi) (h4 : hi < 2 ^ 62)
    (q : R (Itr lo (hi - lo).toNat) H) : wpAny (model X.prog X.w) X.A (pyIter (.ref s.heap.objs.size)) (PIE X pins σ tg R) E { s with heap := s.heap.push { cls := .type "range", data := .fields #[.int lo t, .int hi u, .int 1 v] }, toks := tk } := by
  refine wpAny_pyIter_range (IsRange.new ..) (small_one h1 h2 h3 h4) ?_
  have I1 : Inv X pins σ H { s with heap := s.heap.push { cls := .type "range", data := .fields #[.int lo t, .int hi u, .int 1 v] }, toks := tk } := I.kept fun b o e => Heap.get?_push_of_some _ e
  refine ⟨(s.heap.push { cls := .type "range", data := .fields #[.int lo t, .int hi u, .int 1 v] }).objs.size, [(s.heap.push { cls := .type "range", data := .fields #[.int lo t, .int hi u, .int 1 v] }).objs.size], _, _, H, rfl,
    I1.kept (t' := tk) fun b o e => Heap.get?_push_of_some _ e, turn_range _ lo (hi - lo).toNat, ?_, fun b hb => ?_, q⟩
  · have e1 : lo + ((0 : Nat) : Int) * 1 = lo := by simp
    have e2 : (((hi - lo).toNat : Nat) : Int) - ((0 : Nat) : Int) = Builtin.Range.rangeSize lo hi 1 := by rw [rangeSize_one]; split <;> omega
    show IsRangeIter _ _ (lo + ((0 : Nat) : Int) * 1) ((((hi - lo).toNat : Nat) : Int) - ((0 : Nat) : Int)) 1
    rw [e1, e2]
    exact Heap.get?_push_size _ rfl
  · have e : b = (s.heap.push { cls := .type "range", data := .fields #[.int lo t, .int hi u, .int 1 v] }).objs.size := by simpa using hb
    subst e
    exact I1.fpOk (Nat.le_refl _) (I1.hok.fresh (Nat.le_refl _))
def iRng1 (ta : TA) : TI := fun σ H R => ta σ H fun vs H1 => ∃ j : Int, vs = [.int j] ∧ -(2 ^ 62) ≤ j ∧ j < 2 ^ 62 ∧ R (Itr 0 j.toNat) H1
def iRng2 (ta : TA) : TI := fun σ H R => ta σ H fun vs H1 => ∃ i j : Int, vs = [.int i, .int j] ∧ (-(2 ^ 62) ≤ i ∧ i < 2 ^ 62 ∧ -(2 ^ 62) ≤ j ∧ j < 2 ^ 62) ∧ R (Itr i (j - i).toNat) H1
theorem pi_range1 {a : Expr} {ta : TA} {p pos : Pos} (hg : Gl X "range") (hm : X.mg "range" = none) (ha : PA X [a] ta) (hs : starEach [a] X.env = [(false, eval a X.env)] := by rfl) : PI X tg (.Call (.Name "range" p) [a] [] pos) (iRng1 ta) := by
  intro pins s σ H R I h
  refine Call_ (ld_blt I hg hm boot_range (PyProof.Rows.callWith_type1 (thn (ha pos pins s σ H _ I h) fun us s1 ⟨vs, H1, I1, r1, q1⟩ => ?_) hs rfl))
  obtain ⟨j, e, q1, q2, q⟩ := q1
  subst e
  cases r1 with
  | cons r rr =>
    cases rr
    obtain ⟨t, rfl⟩ := r
    exact call_range_1 (range_it I1 (by omega) (by omega) q1 q2 (by simpa using q))
theorem pi_range2 {a b : Expr} {ta : TA} {p pos : Pos} (hg : Gl X "range") (hm : X.mg "range" = none) (ha : PA X [a, b] ta) (hs : starEach [a, b] X.env = [(false, eval a X.env), (false, eval b X.env)] := by rfl) (hs2 : starEach [b] X.env = [(false, eval b X.env)] := by rfl) :
    PI X tg (.Call (.Name "range" p) [a, b] [] pos) (iRng2 ta) := by
  intro pins s σ H R I h
  refine Call_ (ld_blt I hg hm boot_range (PyProof.Rows.callWith_type1 (thn (ha pos pins s σ H _ I h) fun us s1 ⟨vs, H1, I1, r1, q1⟩ => ?_) (by rw [hs, hs2]) (by rw [hs2]; rfl)))
  obtain ⟨i, j, e, ⟨q1, q2, q3, q4⟩, q⟩ := q1
  subst e
  cases r1 with
  | cons r rr =>
    cases rr with
    | cons r' rr =>
      cases rr
      obtain ⟨t, rfl⟩ := r
      obtain ⟨t', rfl⟩ := r'
      exact call_range_2 (range_it I1 q1 q2 q3 q4 q)

/-- W: the invariant by the turn and a measure; N: what the body is to reach -/
def tFor (wi : TI) (g : TG) (tb : TS) : TS := fun D σ H => wi σ H fun J H1 => ∃ W : Nat → Nat → St → Hp → Prop, (∃ m, W 0 m σ H1) ∧ ∀ i m σ H, W i m σ H →
  (J.stop i H ∧ D.nx σ H) ∨ (J.go i H ∧ ∃ N : St → Hp → Prop, (∀ σ' H', N σ' H' → ∃ m', m' < m ∧ W (i + 1) m' σ' H') ∧ ∀ x H', J.yld i H x H' → g x σ H' fun σ2 H2 => tb { D with nx := N, ct := N, bk := D.nx } σ2 H2)
/-- the records at fp as they stand -/
def pinsAt (fp : List Addr) (h : Heap) : List (Addr × Obj) := fp.filterMap fun b => (h.get? b).map fun o => (b, o)
theorem mem_pinsAt {fp : List Addr} {h : Heap} {b : Addr} {o : Obj} (hb : b ∈ fp) (e : h.get? b = some o) : (b, o) ∈ pinsAt fp h := List.mem_filterMap.mpr ⟨b, hb, by rw [e]; rfl⟩
theorem of_pinsAt {fp : List Addr} {h : Heap} {p : Addr × Obj} (hp : p ∈ pinsAt fp h) : p.1 ∈ fp ∧ h.get? p.1 = some p.2 := by
  obtain ⟨b, hb, e⟩ := List.mem_filterMap.mp hp
  cases q : h.get? b with
  | none => rw [q] at e; cases e
  | some o =>
    rw [q] at e
    have e' : (b, o) = p := Option.some.inj e
    subst e'
    exact ⟨hb, q⟩
theorem Inv.pinned {pins : List (Addr × Obj)} {σ : St} {H : Hp} {s : Shared} {fp : List Addr} (I : Inv X pins σ H s) (hf : ∀ b ∈ fp, FpOk X pins H b) (ho : ∀ b ∈ fp, ∃ o, s.heap.get? b = some o ∧ ∀ v, o.data ≠ .cell v) : Inv X (pins ++ pinsAt fp s.heap) σ H s :=
  I.pins_of fun p hp => (List.mem_append.mp hp).elim (fun z => I.pin p (List.mem_append_right _ z)) fun z => by
    obtain ⟨hb, e⟩ := of_pinsAt z
    obtain ⟨f0, f1, f2, _⟩ := hf p.1 hb
    obtain ⟨o, e', d⟩ := ho p.1 hb
    rw [e] at e'; cases e'
    exact ⟨e, f0, f1, f2, d⟩
theorem Inv.unpinned {pins pl : List (Addr × Obj)} {σ : St} {H : Hp} {s : Shared} (I : Inv X (pins ++ pl) σ H s) : Inv X pins σ H s := I.pins_of fun p hp => I.pin p (List.mem_append_right _ (List.mem_append_left _ hp))
theorem ps_for {iter : Expr} {body : List Stmt} {wi : TI} {g : TG} {tb : TS} {pos : Pos} (hp : PassesOwn (model X.prog X.w) X.A X.env X.xe) (hc : X.calm = true) (hi : PI X tg iter wi) (hg : PG X tg g) (hb : PSs X body tb)
    (hs : ∀ x, foldedSetIterable iter X.env x = pure x := by intro _; rfl) : PS X (.For tg iter body [] pos) (tFor wi g tb) := by
  intro pins s σ H D I h
  refine wpAny_For (thn (hi pins s σ H _ I h) fun v s1 h1 => thn h1 fun itv s2 h2 => ?_) hs
  obtain ⟨it, fp, tn, J, H2, e, I2, T, st2, f2, W, ⟨m0, w0⟩, turn⟩ := h2
  subst e
  -- what stays true of the iterator's objects through the loop
  have stat : ∀ {H' : Hp}, (∀ b ∈ fp, H' b = none) → ∀ b ∈ fp, FpOk X pins H' b := fun hn b hb => ⟨hn b hb, (f2 b hb).2⟩
  refine codeAny_forLoop_any (fun n s' => ∃ i σ' H', Inv X pins σ' H' s' ∧ tn i s'.heap ∧ (∀ b ∈ fp, H' b = none) ∧ W i n σ' H') ?_ m0 ⟨0, σ, H2, I2, st2, fun b hb => (f2 b hb).1, w0⟩
  rintro n s3 ⟨i, σ3, H3, I3, st3, fr3, w3⟩
  rcases turn i n σ3 H3 w3 with ⟨stop, qn⟩ | ⟨go, N, hN, step⟩
  · refine wpAny_passesOwn hp (thn (T.done X rfl rfl rfl hc i pins s3 σ3 H3 X.xe I3 (stat fr3) st3 stop) fun r s4 ⟨hr, I4⟩ => ?_)
    subst hr
    exact wpAny_execs_nil ⟨σ3, H3, I4, qn⟩
  · refine wpAny_passesOwn hp (thn (T.item X rfl rfl rfl hc i pins s3 σ3 H3 X.xe I3 (stat fr3) st3 go) fun r s4 ⟨u, hr, h4⟩ => ?_)
    subst hr
    refine wpAny_passesOwn hp (thn h4 fun _ s5 ⟨x, H5, I5, r5, y5, st5, fr5⟩ => ?_)
    have I5' := I5.pinned (stat fr5) (T.obj _ _ st5)
    refine wpAny_passesOwn hp (thn (hg _ s5 σ3 H5 x u _ I5' r5 (step x H5 y5)) fun _ s6 ⟨σ6, H6, I6, q6⟩ => ?_)
    refine wpAny_passesOwn hp (thn (hb _ s6 σ6 H6 _ I6 q6) fun f s7 q7 => ?_)
    have again : ∀ {σ7 : St} {H7 : Hp}, Inv X (pins ++ pinsAt fp s5.heap) σ7 H7 s7 → N σ7 H7 → ∃ m, m < n ∧ ∃ i σ' H', Inv X pins σ' H' s7 ∧ tn i s7.heap ∧ (∀ b ∈ fp, H' b = none) ∧ W i m σ' H' := fun {σ7 H7} I7 n7 => by
      obtain ⟨m', hm, w7⟩ := hN σ7 H7 n7
      refine ⟨m', hm, i + 1, σ7, H7, I7.unpinned, T.keep _ _ _ st5 fun b hb o e => (I7.pin (b, o) (List.mem_append_right _ (List.mem_append_right _ (mem_pinsAt hb e)))).1, fun b hb => ?_, w7⟩
      obtain ⟨o, e, d⟩ := T.obj _ _ st5 b hb
      exact (I7.pin (b, o) (List.mem_append_right _ (List.mem_append_right _ (mem_pinsAt hb e)))).2.1
    cases f with
    | next => obtain ⟨σ7, H7, I7, n7⟩ := q7; exact again I7 n7
    | cont => obtain ⟨σ7, H7, I7, n7⟩ := q7; exact again I7 n7
    | brk => obtain ⟨σ7, H7, I7, q7⟩ := q7; exact ⟨σ7, H7, I7.unpinned, q7⟩
    | ret v => obtain ⟨x7, σ7, H7, I7, r7, q7⟩ := q7; exact ⟨x7, σ7, H7, I7.unpinned, r7, q7⟩
end
theorem for_tup {K : PySem.W.Frag} {a : Addr} {xs : List V} {g : TG} {tb : TS} {D : Ends} {σ : St} {H : Hp} (Pv : Nat → St → Hp → Prop) (h0 : Pv 0 σ H) (hl : ∀ i σ H, i ≤ xs.length → Pv i σ H → SqT K H a xs)
    (hs : ∀ i x σ H, xs[i]? = some x → Pv i σ H → g x σ H fun σ2 H2 => tb { D with nx := Pv (i + 1), ct := Pv (i + 1), bk := D.nx } σ2 H2) (hd : ∀ σ H, Pv xs.length σ H → D.nx σ H) :
    ∃ W : Nat → Nat → St → Hp → Prop, (∃ m, W 0 m σ H) ∧ ∀ i m σ H, W i m σ H →
      ((Itt K a).stop i H ∧ D.nx σ H) ∨ ((Itt K a).go i H ∧ ∃ N : St → Hp → Prop, (∀ σ' H', N σ' H' → ∃ m', m' < m ∧ W (i + 1) m' σ' H') ∧ ∀ x H', (Itt K a).yld i H x H' → g x σ H' fun σ2 H2 => tb { D with nx := N, ct := N, bk := D.nx } σ2 H2) := by
  refine ⟨fun i m σ H => m = xs.length - i ∧ i ≤ xs.length ∧ Pv i σ H, ⟨xs.length, by simp, Nat.zero_le _, h0⟩, ?_⟩
  rintro i m σ H ⟨rfl, hi, p⟩
  have q := hl i σ H hi p
  by_cases hlt : i < xs.length
  · refine .inr ⟨⟨xs, xs[i], q, by simp [hlt]⟩, Pv (i + 1), fun σ' H' p' => ⟨xs.length - (i + 1), by omega, rfl, hlt, p'⟩, fun x H' y => ?_⟩
    obtain ⟨e, y⟩ := y
    subst e
    exact hs i x σ _ (y xs q) p
  · have e : i = xs.length := by omega
    subst e
    exact .inl ⟨⟨xs, q, Nat.le_refl _⟩, hd σ H p⟩
theorem for_range {lo : Int} {n : Nat} {g : TG} {tb : TS} {D : Ends} {σ : St} {H : Hp} (Pv : Nat → St → Hp → Prop) (h0 : Pv 0 σ H)
    (hs : ∀ i σ H, i < n → Pv i σ H → g (.int (lo + i)) σ H fun σ2 H2 => tb { D with nx := Pv (i + 1), ct := Pv (i + 1), bk := D.nx } σ2 H2) (hd : ∀ σ H, Pv n σ H → D.nx σ H) :
    ∃ W : Nat → Nat → St → Hp → Prop, (∃ m, W 0 m σ H) ∧ ∀ i m σ H, W i m σ H →
      ((Itr lo n).stop i H ∧ D.nx σ H) ∨ ((Itr lo n).go i H ∧ ∃ N : St → Hp → Prop, (∀ σ' H', N σ' H' → ∃ m', m' < m ∧ W (i + 1) m' σ' H') ∧ ∀ x H', (Itr lo n).yld i H x H' → g x σ H' fun σ2 H2 => tb { D with nx := N, ct := N, bk := D.nx } σ2 H2) := by
  refine ⟨fun i m σ H => m = n - i ∧ i ≤ n ∧ Pv i σ H, ⟨n, by simp, Nat.zero_le _, h0⟩, ?_⟩
  rintro i m σ H ⟨rfl, hi, p⟩
  by_cases hlt : i < n
  · refine .inr ⟨hlt, Pv (i + 1), fun σ' H' p' => ⟨n - (i + 1), by omega, rfl, hlt, p'⟩, fun x H' y => ?_⟩
    obtain ⟨e, y⟩ := y
    subst e y
    exact hs i σ _ hlt p
  · have e : i = n := by omega
    subst e
    exact .inl ⟨Nat.le_refl _, hd σ H p⟩
end L2
namespace L2
open PySem PySem.Spec PyProof.Rows
abbrev R2 := V → V → Hp → VK → Prop
/-- a two-place operation on values: f is binaryOp op, inplaceOp op or compareOp op -/
def OpR (X : Cx) (f : Value → Value → Sem Value) (r : R2) : Prop :=
  ∀ (pins : List (Addr × Obj)) (s : Shared) (σ : St) (H : Hp) (x y : V) (v u : Value) (Q : VK), Inv X pins σ H s → RelV x v → RelV y u → r x y H Q →
    wpAny (model X.prog X.w) X.A (f v u) (EP X pins σ Q) X.xe s
/-- a one-place operation -/
def UnR (X : Cx) (f : Value → Sem Value) (r : V → Hp → VK → Prop) : Prop :=
  ∀ (pins : List (Addr × Obj)) (s : Shared) (σ : St) (H : Hp) (x : V) (v : Value) (Q : VK), Inv X pins σ H s → RelV x v → r x H Q →
    wpAny (model X.prog X.w) X.A (f v) (EP X pins σ Q) X.xe s
/-- a call of a value that is known (a builtin, a type) with values -/
def CallR (X : Cx) (f : Value) (r : List V → Hp → VK → Prop) : Prop :=
  ∀ (pins : List (Addr × Obj)) (s : Shared) (σ : St) (H : Hp) (xs : List V) (us : List Value) (Q : VK), Inv X pins σ H s → Vals xs us → r xs H Q →
    wpAny (model X.prog X.w) X.A (call f us) (EP X pins σ Q) X.xe s
/-- a value's truth -/
def TruR (X : Cx) (r : V → Hp → (Bool → Hp → Prop) → Prop) : Prop :=
  ∀ (pins : List (Addr × Obj)) (s : Shared) (σ : St) (H : Hp) (x : V) (v : Value) (Q : Bool → Hp → Prop), Inv X pins σ H s → RelV x v → r x H Q →
    wpAny (model X.prog X.w) X.A (truthy v) (TP X pins σ Q) X.xe s

def tOp (r : R2) (ta tb : TE) : TE := fun σ H Q => ta σ H fun x H1 => tb σ H1 fun y H2 => r x y H2 Q
def tUn (r : V → Hp → VK → Prop) (ta : TE) : TE := fun σ H Q => ta σ H fun x H1 => r x H1 Q
/-- ints in, under C, and a value out -/
def rI (C : Int → Int → Prop) (g : Int → Int → V) : R2 := fun x y H Q => ∃ i j, x = .int i ∧ y = .int j ∧ C i j ∧ Q (g i j) H
def rI0 (g : Int → Int → V) : R2 := fun x y H Q => ∃ i j, x = .int i ∧ y = .int j ∧ Q (g i j) H
def rU (g : Int → V) : V → Hp → VK → Prop := fun x H Q => ∃ i, x = .int i ∧ Q (g i) H

section
variable {X : Cx} {a b c : Expr} {ta tb tc : TE} {pos : Pos}
theorem binT (ha : PE X a ta) (hb : PE X b tb) {pins : List (Addr × Obj)} {s : Shared} {σ : St} {H : Hp} {R : V → V → Hp → Prop} (I : Inv X pins σ H s)
    (h : ta σ H fun x H1 => tb σ H1 fun y H2 => R x y H2) {Q : Value → Shared → Prop} {f : Value → Value → Sem Value}
    (hf : ∀ v u s2 x y H2, Inv X pins σ H2 s2 → RelV x v → RelV y u → R x y H2 → wpAny (model X.prog X.w) X.A (f v u) Q X.xe s2) :
    wpAny (model X.prog X.w) X.A (eval a X.env) (fun v s₁ => wpAny (model X.prog X.w) X.A (eval b X.env) (fun u s₂ => wpAny (model X.prog X.w) X.A (f v u) Q X.xe s₂) X.xe s₁) X.xe s := by
  refine thn (ha pins s σ H _ I h) fun v s1 ⟨x, H1, I1, r1, q1⟩ => ?_
  refine thn (hb pins s1 σ H1 _ I1 q1) fun u s2 ⟨y, H2, I2, r2, q2⟩ => ?_
  exact hf v u s2 x y H2 I2 r1 r2 q2

theorem pe_op {op : Operator} {r : R2} (ho : OpR X (binaryOp op) r) (ha : PE X a ta) (hb : PE X b tb) : PE X (.BinOp a op b pos) (tOp r ta tb) := by
  intro pins s σ H Q I h
  exact wpAny_BinOp (binT ha hb I h fun v u s2 x y H2 I2 rx ry q => ho pins s2 σ H2 x y v u Q I2 rx ry q)
theorem pe_un {op : UnaryOp} {r : V → Hp → VK → Prop} (ho : UnR X (unaryOp op) r) (ha : PE X a ta) : PE X (.UnaryOp op a pos) (tUn r ta) := by
  intro pins s σ H Q I h
  exact UnaryOp_ (thn (ha pins s σ H _ I h) fun v s1 ⟨x, H1, I1, r1, q1⟩ => ho pins s1 σ H1 x v Q I1 r1 q1)
theorem opI {f : Value → Value → Sem Value} {C : Int → Int → Prop} {g : Int → Int → Int}
    (rule : ∀ (i j : Int) (t u : Tok) (s : Shared) (Q : Value → Shared → Prop) (E : Value → Shared → Prop), C i j → Q (.int (g i j) s.toks) { s with toks := s.toks + 1 } → wpAny (model X.prog X.w) X.A (f (.int i t) (.int j u)) Q E s) :
    OpR X f (rI C fun i j => .int (g i j)) := by
  intro pins s σ H x y v u Q I rx ry h
  obtain ⟨i, j, rfl, rfl, hc, q⟩ := h
  obtain ⟨t, rfl⟩ := rx
  obtain ⟨t', rfl⟩ := ry
  exact rule i j t t' s _ _ hc ⟨.int (g i j), H, I.tok _, ⟨_, rfl⟩, q⟩
theorem opI0 {f : Value → Value → Sem Value} {g : Int → Int → Int}
    (rule : ∀ (i j : Int) (t u : Tok) (s : Shared) (Q : Value → Shared → Prop) (E : Value → Shared → Prop), Q (.int (g i j) s.toks) { s with toks := s.toks + 1 } → wpAny (model X.prog X.w) X.A (f (.int i t) (.int j u)) Q E s) :
    OpR X f (rI0 fun i j => .int (g i j)) := by
  intro pins s σ H x y v u Q I rx ry h
  obtain ⟨i, j, rfl, rfl, q⟩ := h
  obtain ⟨t, rfl⟩ := rx
  obtain ⟨t', rfl⟩ := ry
  exact rule i j t t' s _ _ ⟨.int (g i j), H, I.tok _, ⟨_, rfl⟩, q⟩
theorem opB0 {f : Value → Value → Sem Value} {g : Int → Int → Bool}
    (rule : ∀ (i j : Int) (t u : Tok) (s : Shared) (Q : Value → Shared → Prop) (E : Value → Shared → Prop), Q (.bool (g i j)) s → wpAny (model X.prog X.w) X.A (f (.int i t) (.int j u)) Q E s) :
    OpR X f (rI0 fun i j => .bl (g i j)) := by
  intro pins s σ H x y v u Q I rx ry h
  obtain ⟨i, j, rfl, rfl, q⟩ := h
  obtain ⟨t, rfl⟩ := rx
  obtain ⟨t', rfl⟩ := ry
  exact rule i j t t' s _ _ ⟨.bl (g i j), H, I, rfl, q⟩

def CDiv (i j : Int) : Prop := 0 < j ∧ j < 1073741824
def CPow (i j : Int) : Prop := 0 ≤ j ∧ j ≤ 1000000 ∧ i.natAbs < 2 ^ 64
def CMul (i j : Int) : Prop := (-(2 ^ 64) < i ∧ i < 2 ^ 64) ∨ (-(2 ^ 64) < j ∧ j < 2 ^ 64)
theorem CMul.ok {i j : Int} (h : CMul i j) : IntMulOk i j := by
  rcases h with ⟨h1, h2⟩ | ⟨h1, h2⟩
  · exact .of_left (intBits_le_64 h1 h2)
  · exact .of_right (intBits_le_64 h1 h2)
theorem op_add : OpR X (binaryOp .Add) (rI0 fun i j => .int (i + j)) := opI0 fun _ _ _ _ _ _ _ q => add_int q
theorem op_sub : OpR X (binaryOp .Sub) (rI0 fun i j => .int (i - j)) := opI0 fun _ _ _ _ _ _ _ q => sub_int q
theorem op_mul : OpR X (binaryOp .Mult) (rI CMul fun i j => .int (i * j)) := opI fun _ _ _ _ _ _ _ hc q => mul_int q hc.ok
/-- // by a positive divisor -/
theorem op_fdiv : OpR X (binaryOp .FloorDiv) (rI CDiv fun i j => .int (i / j)) := opI fun i j _ _ _ _ _ hc q => by
  have h1 : (0 : Int) < j := hc.1
  have h2 : j < 1073741824 := hc.2
  exact floordiv_int (by omega) (by rw [Int.fdiv_eq_ediv_of_nonneg i (by omega)]; exact q) (.inl (PyProof.noPylong_small (by omega)))
/-- % by a positive divisor of any size -/
theorem op_mod : OpR X (binaryOp .Mod) (rI (fun _ j => 0 < j) fun i j => .int (i % j)) := opI fun i j _ _ _ _ _ hc q => by
  have h1 : (0 : Int) < j := hc
  exact mod_int' (by omega) (by rw [Int.fmod_eq_emod_of_nonneg i (by omega)]; exact q)
theorem op_pow : OpR X (binaryOp .Pow) (rI CPow fun i j => .int (i ^ j.toNat)) := opI fun _ _ _ _ _ _ _ hc q => pow_int_small hc.1 hc.2.1 hc.2.2 q
theorem unI {f : Value → Sem Value} {g : Int → Int}
    (rule : ∀ (i : Int) (t : Tok) (s : Shared) (Q : Value → Shared → Prop) (E : Value → Shared → Prop), Q (.int (g i) s.toks) { s with toks := s.toks + 1 } → wpAny (model X.prog X.w) X.A (f (.int i t)) Q E s) :
    UnR X f (rU fun i => .int (g i)) := by
  intro pins s σ H x v Q I rx h
  obtain ⟨i, rfl, q⟩ := h
  obtain ⟨t, rfl⟩ := rx
  exact rule i t s _ _ ⟨.int (g i), H, I.tok _, ⟨_, rfl⟩, q⟩
theorem un_neg : UnR X (unaryOp .USub) (rU fun i => .int (-i)) := unI fun _ _ _ _ _ q => neg_int q
end
section
variable {X : Cx} {a b c : Expr} {ta tb tc : TE} {pos : Pos}
theorem fin_bl {pins : List (Addr × Obj)} {σ : St} {H : Hp} {s : Shared} {Q : VK} {k k' : Bool} (I : Inv X pins σ H s) (q : Q (.bl k) H) (e : k = k') : EP X pins σ Q (.bool k') s := by
  subst e
  exact ⟨.bl k, H, I, rfl, q⟩
theorem op_lt : OpR X (compareOp .Lt) (rI0 fun i j => .bl (decide (i < j))) := opB0 fun _ _ _ _ _ _ _ q => lt_int q
theorem op_le : OpR X (compareOp .LtE) (rI0 fun i j => .bl (decide (i ≤ j))) := opB0 fun _ _ _ _ _ _ _ q => le_int q
theorem op_gt : OpR X (compareOp .Gt) (rI0 fun i j => .bl (decide (j < i))) := opB0 fun _ _ _ _ _ _ _ q => gt_int q
theorem op_ge : OpR X (compareOp .GtE) (rI0 fun i j => .bl (decide (j ≤ i))) := opB0 fun _ _ _ _ _ _ _ q => ge_int q
/-- is None, is not None: the right side a value none -/
theorem op_isN : OpR X (compareOp .Is) (fun x y H Q => y = .non ∧ Q (.bl (decide (x = .non))) H) := by
  intro pins s σ H x y v u Q I rx ry h
  obtain ⟨rfl, q⟩ := h
  cases ry
  refine is_none_gen (fin_bl I q ?_)
  cases x <;> first
    | (cases rx; rfl)
    | (obtain ⟨t, rfl⟩ := rx; rfl)
theorem op_notN : OpR X (compareOp .IsNot) (fun x y H Q => y = .non ∧ Q (.bl (!decide (x = .non))) H) := by
  intro pins s σ H x y v u Q I rx ry h
  obtain ⟨rfl, q⟩ := h
  cases ry
  refine isnot_none_gen (fin_bl I q ?_)
  cases x <;> first
    | (cases rx; rfl)
    | (obtain ⟨t, rfl⟩ := rx; rfl)

/-- two rules for one operation: by cases -/
theorem OpR.or {f : Value → Value → Sem Value} {r r' : R2} (h : OpR X f r) (h' : OpR X f r') : OpR X f (fun x y H Q => r x y H Q ∨ r' x y H Q) := by
  intro pins s σ H x y v u Q I rx ry q
  rcases q with q | q
  · exact h pins s σ H x y v u Q I rx ry q
  · exact h' pins s σ H x y v u Q I rx ry q

theorem nomark (b : Expr) {op : CmpOp} (h : op ≠ .In := by decide) (h2 : op ≠ .NotIn := by decide) : behindInMarks op b = false := by
  have e1 : (op == CmpOp.In) = false := by cases op <;> first | rfl | exact absurd rfl h
  have e2 : (op == CmpOp.NotIn) = false := by cases op <;> first | rfl | exact absurd rfl h2
  cases b <;> simp [behindInMarks, e1, e2]
/-- a comparison as a value; hm: nomark b, or (for in, not in) by with_unfolding_all rfl -/
theorem pe_cmpR {op : CmpOp} {r : R2} (ho : OpR X (compareOp op) r) (ha : PE X a ta) (hb : PE X b tb) (hm : behindInMarks op b = false) : PE X (.Compare a [op] [b] pos) (tOp r ta tb) := by
  intro pins s σ H Q I h
  exact wpAny_Compare1 (binT ha hb I h fun v u s2 x y H2 I2 rx ry q => ho pins s2 σ H2 x y v u Q I2 rx ry q) hm
/-- a reading of a value as a test -/
def tTest (t : TE) : TT := fun σ H Q => t σ H fun x H' => ∃ k, x = .bl k ∧ Q k H'
theorem pt_cmpR {op : CmpOp} {r : R2} (ho : OpR X (compareOp op) r) (ha : PE X a ta) (hb : PE X b tb) (hm : behindInMarks op b = false) : PT X (.Compare a [op] [b] pos) (tTest (tOp r ta tb)) := by
  intro pins s σ H Q I h
  refine wpAny_isTrue_Compare1 (thn (ha pins s σ H _ I h) fun v s1 ⟨x, H1, I1, r1, q1⟩ => thn (hb pins s1 σ H1 _ I1 q1) fun u s2 ⟨y, H2, I2, r2, q2⟩ =>
    thn (ho pins s2 σ H2 x y v u _ I2 r1 r2 q2) fun c s3 ⟨z, H3, I3, r3, k, e, q3⟩ => ?_) hm
  subst e
  cases r3
  exact wpAny_truthy_bool ⟨H3, I3, q3⟩
/-- a value's truth by the abstract heap -/
def TruV (K : PySem.W.Frag) (x : V) (H : Hp) (k : Bool) : Prop :=
  match x with
  | .non => k = false
  | .bl b => k = b
  | .int i => k = (i != 0)
  | .str y => y.length ≤ sizeLine ∧ k = ((y.length : Int) != 0)
  | .byt y => y.size ≤ sizeLine ∧ k = ((y.size : Int) != 0)
  | .ref p => (∃ xs, SqL K H p xs ∧ k = !xs.isEmpty) ∨ (∃ xs, SqT K H p xs ∧ k = !xs.isEmpty) ∨ ∃ kvs, H p = some (.dK kvs) ∧ k = !kvs.isEmpty
  | _ => False
theorem isEmpty_kv {κ : Type} {kvs : List (κ × V)} {vs : List (κ × Value)} (r : KV kvs vs) : (!vs.isEmpty) = !kvs.isEmpty := by
  cases r <;> rfl
theorem isEmpty_of {xs : List V} {its : List Value} (r : Vals xs its) : (!its.toArray.isEmpty) = !xs.isEmpty := by
  cases r <;> simp
theorem line63 : (sizeLine : Nat) < 2 ^ 63 := by rw [sizeLine_eq]; decide
theorem tru_ok : TruR X (fun x H Q => ∃ k, TruV X.K x H k ∧ Q k H) := by
  intro pins s σ H x v Q I rx h
  obtain ⟨k, e, q⟩ := h
  have hl := line63
  have hs : sizeLine = 16777216 := sizeLine_eq
  cases x with
  | non =>
    cases rx
    have e' : k = false := e
    subst e'
    exact truthy_none ⟨H, I, q⟩
  | bl b =>
    cases rx
    have e' : k = b := e
    subst e'
    exact wpAny_truthy_bool ⟨H, I, q⟩
  | int i =>
    obtain ⟨t, rfl⟩ := rx
    have e' : k = (i != 0) := e
    subst e'
    exact PySem.P.truthy_int ⟨H, I, q⟩
  | str y =>
    obtain ⟨t, rfl⟩ := rx
    obtain ⟨hy, e'⟩ : y.length ≤ sizeLine ∧ k = ((y.length : Int) != 0) := e
    subst e'
    exact PySem.P.truthy_str (by omega) ⟨H, I.tok _, q⟩
  | byt y =>
    obtain ⟨t, rfl⟩ := rx
    obtain ⟨hy, e'⟩ : y.size ≤ sizeLine ∧ k = ((y.size : Int) != 0) := e
    subst e'
    exact PySem.W.truthy_bytes (by omega) ⟨H, I.tok _, q⟩
  | ref p =>
    cases rx
    have e' : (∃ xs, SqL X.K H p xs ∧ k = !xs.isEmpty) ∨ (∃ xs, SqT X.K H p xs ∧ k = !xs.isEmpty) ∨ ∃ kvs, H p = some (.dK kvs) ∧ k = !kvs.isEmpty := e
    rcases e' with ⟨xs, hx, e'⟩ | ⟨xs, hx, e'⟩ | ⟨kvs, hx, e'⟩
    · subst e'
      obtain ⟨its, r, pl, hz⟩ := I.list hx
      have hlen := r.length
      exact wpAny_truthy_list pl.isList (by simp only [List.size_toArray]; omega) ⟨H, I.tok _, by rw [isEmpty_of r]; exact q⟩
    · subst e'
      obtain ⟨its, r, pl, hz⟩ := I.tuple hx
      have hlen := r.length
      exact truthy_tuple pl (by simp only [List.size_toArray]; omega) ⟨H, I.tok _, by rw [isEmpty_of r]; exact q⟩
    · subst e'
      obtain ⟨hz, hS, vs, r, m⟩ : kvs.length ≤ sizeLine ∧ (p == sysModules) = false ∧ ∃ vs, KV kvs vs ∧ s.heap.DictOf (mixKind X.prog X.w) p vs := I.hok p _ hx
      have hlen : kvs.length = vs.length := Paired.length r
      exact wpAny_truthy_dict hS m (by omega) ⟨H, I.tok _, by rw [isEmpty_kv r]; exact q⟩
  | _ => exact (show False from e).elim
/-- any expression whose test is its value's truth (a name, a call, a subscript, a field ..: he by fun _ => rfl) -/
theorem pt_truth (ha : PE X a ta) (he : ∀ whole, isTrue a X.env whole = (do let v ← whole; standAt a.pos; holding [v] (truthy v))) :
    PT X a (fun σ H Q => ta σ H fun x H' => ∃ k, TruV X.K x H' k ∧ Q k H') := by
  intro pins s σ H Q I h
  exact isTrue_plain (thn (ha pins s σ H _ I h) fun v s1 ⟨x, H1, I1, r1, q1⟩ => tru_ok pins s1 σ H1 x v Q I1 r1 q1) (he _)

theorem op_add_str : OpR X (binaryOp .Add) (fun x y H Q => ∃ i j, x = .str i ∧ y = .str j ∧ i.length + j.length ≤ sizeLine ∧ Q (.str (i ++ j)) H) := by
  intro pins s σ H x y v u Q I rx ry h
  obtain ⟨i, j, rfl, rfl, hz, q⟩ := h
  obtain ⟨t, rfl⟩ := rx
  obtain ⟨t', rfl⟩ := ry
  exact add_str (fun t' tk => ⟨.str (i ++ j), H, I.tok _, ⟨_, rfl⟩, q⟩) hz
theorem vals1 {x : V} {us : List Value} (r : Vals [x] us) : ∃ u, us = [u] ∧ RelV x u := by
  cases r with
  | cons r1 r2 => cases r2; exact ⟨_, rfl, r1⟩
theorem vals2 {x y : V} {us : List Value} (r : Vals [x, y] us) : ∃ u w', us = [u, w'] ∧ RelV x u ∧ RelV y w' := by
  cases r with
  | cons r1 r2 =>
    cases r2 with
    | cons r3 r4 => cases r4; exact ⟨_, _, rfl, r1, r3⟩
theorem call_max2 (hc : X.calm = true) : CallR X (.builtin "max") (fun xs H Q => ∃ i j, xs = [.int i, .int j] ∧ Q (.int (if j > i then j else i)) H) := by
  intro pins s σ H xs us Q I r h
  obtain ⟨i, j, rfl, q⟩ := h
  obtain ⟨u, w', rfl, ⟨t, rfl⟩, ⟨t', rfl⟩⟩ := vals2 r
  refine max_two_ints (I.ok.hd hc) fun h' tk k => ⟨_, H, I.kept k, ?_, q⟩
  by_cases hj : j > i
  · rw [if_pos hj, if_pos hj]; exact ⟨_, rfl⟩
  · rw [if_neg hj, if_neg hj]; exact ⟨_, rfl⟩
theorem call_min2 (hc : X.calm = true) : CallR X (.builtin "min") (fun xs H Q => ∃ i j, xs = [.int i, .int j] ∧ Q (.int (if j < i then j else i)) H) := by
  intro pins s σ H xs us Q I r h
  obtain ⟨i, j, rfl, q⟩ := h
  obtain ⟨u, w', rfl, ⟨t, rfl⟩, ⟨t', rfl⟩⟩ := vals2 r
  refine min_two_ints (I.ok.hd hc) fun h' tk k => ⟨_, H, I.kept k, ?_, q⟩
  by_cases hj : j < i
  · rw [if_pos hj, if_pos hj]; exact ⟨_, rfl⟩
  · rw [if_neg hj, if_neg hj]; exact ⟨_, rfl⟩
theorem call_int1 : CallR X (.type "int") (fun xs H Q => (∃ i, xs = [.int i] ∧ Q (.int i) H) ∨ ∃ k, xs = [.bl k] ∧ Q (.int (if k then 1 else 0)) H) := by
  intro pins s σ H xs us Q I r h
  rcases h with ⟨i, rfl, q⟩ | ⟨k, rfl, q⟩
  · obtain ⟨u, rfl, t, rfl⟩ := vals1 r
    exact call_int_int ⟨.int i, H, I, ⟨_, rfl⟩, q⟩
  · obtain ⟨u, rfl, r1⟩ := vals1 r
    cases r1
    exact call_int_bool ⟨.int (if k then 1 else 0), H, I.tok _, ⟨_, rfl⟩, q⟩
end
end L2
namespace L2
open PySem PySem.Spec PyProof.Rows
section
variable {prog : Program} {w : World} {A : Around} {E : Value → Shared → Prop} {s : Shared} {K : PySem.W.Frag} {x dx C f : Addr} {mA : Str → Option Value} {name : Str} {v : Value}
end
theorem RelO.some_of {v : V} {o : Option Value} (r : RelO (some v) o) : ∃ u, o = some u ∧ RelV v u := by
  cases o with
  | none => exact (show False from r).elim
  | some u => exact ⟨u, rfl, r⟩
section
variable {P : Program} {w : World} {H H' : Hp} {h h' : Heap} {a C dx : Addr} {fs fs' : List (Str × V)}
end
structure Cls (K : PySem.W.Frag) (C : Addr) : Prop where
  pg : PySem.W.plainGet K C Str.empty = true
  hd : PySem.W.hasDictIn K C = true
  po : PySem.W.plainOver K C = true
  sa : PySem.W.findIn K (.ref C) "__setattr__" = some (some (.builtin "object.__setattr__"))
theorem Cls.get {K : PySem.W.Frag} {C : Addr} (c : Cls K C) (f : Str) : PySem.W.plainGet K C f = true := c.pg
section
variable {X : Cx} {pins : List (Addr × Obj)} {σ : St} {H : Hp} {s : Shared} {a C dx : Addr} {fs : List (Str × V)} {f : Str} {v : V} {A : Around} {E : Value → Shared → Prop}
/-- a new instance, tracked, without attributes -/
theorem Inv.made (I : Inv X pins σ H s) : Inv X pins σ (upd (upd H s.heap.objs.size (.own (s.heap.objs.size + 1))) (s.heap.objs.size + 1) (.ins C s.heap.objs.size []))
    { s with heap := (s.heap.push PySem.W.emptyDict).push (PySem.W.instObj C s.heap.objs.size) } := by
  have e1 : (s.heap.push PySem.W.emptyDict).get? s.heap.objs.size = some PySem.W.emptyDict := Heap.get?_push_size s.heap rfl
  have e2 : ((s.heap.push PySem.W.emptyDict).push (PySem.W.instObj C s.heap.objs.size)).get? (s.heap.objs.size + 1) = some (PySem.W.instObj C s.heap.objs.size) := by
    have := Heap.get?_push_size (s.heap.push PySem.W.emptyDict) (o := PySem.W.instObj C s.heap.objs.size) rfl
    rwa [Heap.size_push] at this
  have e3 : (s.heap.push PySem.W.emptyDict).Ns s.heap.objs.size (fun _ => none) := ⟨PySem.W.emptyDict, #[], _, e1, rfl, (fun e he => absurd he (by simp)), fun _ => rfl⟩
  have I1 := I.laid (a := s.heap.objs.size) (o := .own (s.heap.objs.size + 1)) (h' := s.heap.push PySem.W.emptyDict) (t' := s.toks) (fun b u q => Heap.get?_push_of_some _ q) (Nat.le_refl _) ⟨_, e1⟩
  refine I1.laid (a := s.heap.objs.size + 1) (o := .ins C s.heap.objs.size []) (t' := s.toks) (fun b u q => Heap.get?_push_of_some _ q) (Nat.le_of_eq (Heap.size_push _ _)) ?_
  have ne : s.heap.objs.size ≠ s.heap.objs.size + 1 := Nat.ne_of_lt (Nat.lt_succ_self _)
  refine ⟨by rw [upd_ne ne, upd_same], Nat.zero_le _, ne, e2, fun _ => none, (Heap.Ns1.of_empty e3).at fun o q => Heap.get?_push_of_some _ q, fun _ => True.intro, fun y hy => absurd rfl hy⟩

end
section
variable {X : Cx} {o e value : Expr} {f : Str} {pos pos' tpos : Pos} {ta tv : TE}
end
section
variable {X : Cx} {pins : List (Addr × Obj)} {σ : St} {H : Hp} {s : Shared} {A : Around} {E : Value → Shared → Prop} {Q : Value → Shared → Prop} {c : Value} {b : Bool}
end
end L2
namespace L2
open PySem PySem.Spec PyProof.Rows
structure Room (k : Nat) (A : Around) : Prop where
  hd : A.handled = none
  dp : A.depth + 3 * k + 5 < recursionLimit
  un : A.units + 16 * k + 200 < cLine
theorem Room.mono {j k : Nat} {A : Around} (r : Room k A) (h : j ≤ k) : Room j A := ⟨r.hd, by have := r.dp; omega, by have := r.un; omega⟩
theorem Room.deeper {k : Nat} {A : Around} (r : Room (k + 1) A) (env : Env) : Room k (A.deeper env) :=
  ⟨r.hd, by have := r.dp; show A.depth + 1 + 3 * k + 5 < _; omega, by have := r.un; show A.units + 3 + 16 * k + 200 < _; omega⟩
theorem Room.in1 {k : Nat} {A : Around} (r : Room (k + 1) A) : Room k A.in1 :=
  ⟨r.hd, by have := r.dp; show A.depth + 3 * k + 5 < _; omega, by have := r.un; show A.units + 1 + 16 * k + 200 < _; omega⟩
theorem Room.depth {k : Nat} {A : Around} (r : Room k A) : A.depth < recursionLimit := by have := r.dp; omega
theorem Room.units {k : Nat} {A : Around} (r : Room k A) : A.units + 64 < cLine := by have := r.un; omega
def tNil : TA := fun _ H Q => Q [] H
def tCons (ta : TE) (tr : TA) : TA := fun σ H Q => ta σ H fun x H1 => tr σ H1 fun xs H2 => Q (x :: xs) H2
section
variable {X : Cx} {e : Expr} {es : List Expr} {te : TE} {t : TA} {pos : Pos}
theorem pa_nil : PA X [] tNil := fun _ _ _ _ H Q I h => Calls.spliced_nil ⟨[], H, I, .nil, h⟩
theorem pa_cons (ha : PE X e te) (hr : PA X es t) (hs : starEach (e :: es) X.env = (false, eval e X.env) :: starEach es X.env := by rfl) : PA X (e :: es) (tCons te t) := by
  intro pos pins s σ H Q I h
  rw [hs]
  show wpAny _ _ (spliced ((false, eval e X.env) :: backTo pos (starEach es X.env))) _ _ s
  refine Calls.spliced_cons (thn (ha pins s σ H _ I h) fun u s1 ⟨x, H1, I1, r1, q1⟩ => ?_)
  exact thn (hr pos pins s1 σ H1 _ I1 q1) fun us s2 ⟨xs, H2, I2, r2, q2⟩ => ⟨x :: xs, H2, I2, .cons r1 r2, q2⟩

/-- a tuple, a list of written items -/
def tTup (t : TA) : TE := fun σ H Q => t σ H fun xs H1 => xs.length ≤ sizeLine ∧ ∀ p, H1 p = none → Q (.ref p) (upd H1 p (.tup xs))
def tLst (t : TA) : TE := fun σ H Q => t σ H fun xs H1 => xs.length ≤ sizeLine ∧ ∀ p, H1 p = none → Q (.ref p) (upd H1 p (.lst xs))
theorem pe_tup {x1} (h : PA X es t) : PE X (.Tuple es x1 pos) (tTup t) := by
  intro pins s σ H Q I hq
  refine wpAny_Tuple_spliced (thn (h pos pins s σ H _ I hq) fun us s1 ⟨xs, H1, I1, r, z, q⟩ => ⟨by rw [← r.length]; exact z, ?_⟩)
  have hf : H1 s1.heap.objs.size = none := I1.hok.fresh (Nat.le_refl _)
  refine ⟨.ref s1.heap.objs.size, upd H1 s1.heap.objs.size (.tup xs), I1.laid (t' := s1.toks) (fun b u e => Heap.get?_push_of_some _ e) (Nat.le_refl _) ?_, rfl, q _ hf⟩
  exact ⟨z, us, r, ⟨_, Heap.get?_push_size _ rfl, rfl, _, rfl⟩⟩
theorem pe_lst (h : PA X es t) : PE X (.List es pos) (tLst t) := by
  intro pins s σ H Q I hq
  refine wpAny_List_spliced (thn (h pos pins s σ H _ I hq) fun us s1 ⟨xs, H1, I1, r, z, q⟩ => ⟨by rw [← r.length]; exact z, ?_⟩)
  have hf : H1 s1.heap.objs.size = none := I1.hok.fresh (Nat.le_refl _)
  refine ⟨.ref s1.heap.objs.size, upd H1 s1.heap.objs.size (.lst xs), I1.laid (t' := s1.toks) (fun b u e => Heap.get?_push_of_some _ e) (Nat.le_refl _) ?_, rfl, q _ hf⟩
  exact ⟨z, us, 0, r, Heap.get?_push_size _ rfl⟩
end
/-- a def's promise: the bound arguments in the parameters' order, the heap, the wanted end, the wanted exception -/
abbrev Sp := List V → Hp → VK → XK → Prop
/-- how an exception lies behind a call (file 08 gives it): the callers' frames, abstract heap and state ahead of the call, the wish, the exception, the state -/
abbrev CXT := List Env → Hp → Shared → XK → Value → Shared → Prop

/-- the state at a call -/
structure Env0 (P : Program) (w : World) (K : PySem.W.Frag) (mg : Str → Option Value) (base : Heap) (A : Around) (outer : List Env) (s : Shared) (H : Hp) : Prop where
  frames : A.frames = some outer
  mod : Mod K mg base
  bs : ∀ b o, base.get? b = some o → s.heap.get? b = some o ∧ H b = none
  bsz : base.objs.size ≤ s.heap.objs.size
  funs : s.heap.FunFrames base outer
  frf : ∀ b ∈ frs outer, H b = none
  hok : HOk P w H s.heap
  bare : AllBare s.gens
/-- a call's end -/
def CE (outer : List Env) (P : Program) (w : World) (H : Hp) (s : Shared) (Q : VK) (u : Value) (s' : Shared) : Prop :=
  ∃ v H', s'.os = s.os ∧ AllBare s'.gens ∧ Un (frs outer) [] H H' s.heap s'.heap ∧ HOk P w H' s'.heap ∧ RelV v u ∧ Q v H'
def CR (CX : CXT) (outer : List Env) (P : Program) (w : World) (H : Hp) (s : Shared) (Q : VK) (E : XK) (r : Result) (s' : Shared) : Prop :=
  match r with
  | .ok (.ret u) => CE outer P w H s Q u s'
  | .ok _ => False
  | .error e => CX outer H s E e s'
structure FnOk (P : Program) (w : World) (K : PySem.W.Frag) (mg : Str → Option Value) (base : Heap) (CX : CXT) (k : Nat) (f : Addr) (fd : FuncData) (ps : List Str) (sp : Sp) : Prop where
  len : ∀ vs H Q E, sp vs H Q E → vs.length = ps.length
  run : ∀ (A : Around) (outer : List Env) (s : Shared) (H : Hp) (args : Args) (us : List Value) (vs : List V) (Q : VK) (E : XK), Room k A → Env0 P w K mg base A outer s H → BindsTo s fd args (ps.zip us) → Vals vs us → sp vs H Q E →
    codeAny (model P w) A (.call (.ref f) args) (CR CX outer P w H s Q E) s
theorem FnOk.mono {P : Program} {w : World} {K : PySem.W.Frag} {mg : Str → Option Value} {base : Heap} {CX : CXT} {j k : Nat} {f : Addr} {fd : FuncData} {ps : List Str} {sp : Sp} (F : FnOk P w K mg base CX j f fd ps sp) (h : j ≤ k) :
    FnOk P w K mg base CX k f fd ps sp := ⟨F.len, fun A outer s H args us vs Q E hr => F.run A outer s H args us vs Q E (hr.mono h)⟩
/-- a weaker promise -/
theorem FnOk.imp {P : Program} {w : World} {K : PySem.W.Frag} {mg : Str → Option Value} {base : Heap} {CX : CXT} {k : Nat} {f : Addr} {fd : FuncData} {ps : List Str} {sp sp' : Sp} (F : FnOk P w K mg base CX k f fd ps sp)
    (h : ∀ vs H Q E, sp' vs H Q E → sp vs H Q E) : FnOk P w K mg base CX k f fd ps sp' :=
  ⟨fun vs H Q E q => F.len vs H Q E (h _ _ _ _ q), fun A outer s H args us vs Q E hr he hb hv hs => F.run A outer s H args us vs Q E hr he hb hv (h _ _ _ _ hs)⟩

theorem Env0.in1 {P : Program} {w : World} {K : PySem.W.Frag} {mg : Str → Option Value} {base : Heap} {A : Around} {outer : List Env} {s : Shared} {H : Hp} (e : Env0 P w K mg base A outer s H) :
    Env0 P w K mg base A.in1 outer s H := ⟨e.frames, e.mod, e.bs, e.bsz, e.funs, e.frf, e.hok, e.bare⟩

section
variable {X : Cx} {pins : List (Addr × Obj)} {σ : St} {H : Hp} {s s' : Shared}
/-- from a body: what a callee wants -/
theorem Inv.env0 (I : Inv X pins σ H s) : Env0 X.prog X.w X.K X.mg X.base X.A X.stack s H :=
  ⟨I.ok.frames, I.ok.mod, I.bs, Nat.le_trans I.ok.bsz I.sz, I.stack, I.stkFree, I.hok, I.bare⟩
/-- behind a call -/
theorem Inv.after {Q : VK} {u : Value} (I : Inv X pins σ H s) (h : CE X.stack X.prog X.w H s Q u s') : EP X pins σ Q u s' := by
  obtain ⟨v, H', os, bare, un, hok, r, q⟩ := h
  obtain ⟨hh, g, d, t, os'⟩ := s'
  obtain rfl : os' = s.os := os
  exact ⟨v, H', I.call (h' := hh) (g' := g) (d' := d) (t' := t) (ch := []) un hok bare (fun b z => absurd z (by simp)), r, q⟩
end
/-- f(..): the written arguments, then the defaults dvs; E: what is wanted of an exception -/
def tCall (sp : Sp) (dvs : List V) (E : XK) (t : TA) : TE := fun σ H Q => t σ H fun vs H1 => sp (vs ++ dvs) H1 Q E
/-- how the parameters are bound: us the positional arguments, kw the keywords' values by name, ds the defaults that fill up -/
def Binds (K : PySem.W.Frag) (fd : FuncData) (ps : List Str) (ds : List Value) : Prop :=
  ∀ (s : Shared) (us : List Value), K.In s.heap → (us ++ ds).length = ps.length → BindsTo s fd ⟨us, []⟩ (ps.zip (us ++ ds))
/-- every parameter is given -/
theorem Binds.all {K : PySem.W.Frag} {fd : FuncData} {ps : List Str} (h : ∀ us : List Value, us.length = ps.length → bindArgs fd ⟨us, []⟩ = pure (ps.zip us)) : Binds K fd ps [] := fun s us _ hl => by
  rw [List.append_nil] at hl ⊢
  exact .of_eq (h us hl)

/-- an exception of a callee reaches what this body wants of exceptions -/
def Passes (CX : CXT) (X : Cx) (E : XK) : Prop := ∀ (pins : List (Addr × Obj)) (σ : St) (H : Hp) (s : Shared) (e : Value) (s' : Shared), Inv X pins σ H s → CX X.stack H s E e s' → X.xe e s'

section
variable {X : Cx} {CX : CXT} {k : Nat} {f C : Addr} {fd : FuncData} {ps : List Str} {sp : Sp} {dvs : List V} {ds : List Value} {E : XK} {x m : Str} {p pos apos : Pos} {e o : Expr} {es : List Expr} {ta : TE} {t : TA}
/-- the callee runs -/
theorem run_fn {pins : List (Addr × Obj)} {σ : St} {H : Hp} {s : Shared} {Q : VK} {us : List Value} {vs : List V} (F : FnOk X.prog X.w X.K X.mg X.base CX k f fd ps sp) (hr : Room k X.A) (hb : Binds X.K fd ps ds) (hd : Vals dvs ds) (hx : Passes CX X E)
    (I : Inv X pins σ H s) (r : Vals vs us) (h : sp (vs ++ dvs) H Q E) : wpAny (model X.prog X.w) X.A (call (.ref f) us) (EP X pins σ Q) X.xe s := by
  have r2 : Vals (vs ++ dvs) (us ++ ds) := r.append hd
  have hl : (us ++ ds).length = ps.length := by rw [← r2.length]; exact F.len _ _ _ _ h
  refine wpAny_call (codeAny_mono (F.run X.A X.stack s H ⟨us, []⟩ (us ++ ds) (vs ++ dvs) Q E hr I.env0 (hb s us I.kIn hl) r2 h) fun r s' hq => ?_)
  cases r with
  | error e => exact hx pins σ H s e s' I hq
  | ok fl =>
    cases fl with
    | ret u => exact I.after hq
    | next => exact False.elim hq
    | brk => exact False.elim hq
    | cont => exact False.elim hq

theorem pe_call (F : FnOk X.prog X.w X.K X.mg X.base CX k f fd ps sp) (hr : Room k X.A) (hg : Gl X x) (hm : X.mg x = some (.ref f)) (hk : PySem.W.keepIn X.K (.ref f) = true) (hb : Binds X.K fd ps ds) (hd : Vals dvs ds) (hx : Passes CX X E)
    (ha : PA X (e :: es) t) (hdb : (x == ("__debug__" : Str)) = false := by decide) (he : starEach (e :: es) X.env = (false, eval e X.env) :: starEach es X.env := by rfl) (hpl : (backTo pos (starEach es X.env)).any (·.1) = false := by rfl) :
    PE X (.Call (.Name x p) (e :: es) [] pos) (tCall sp dvs E t) := by
  intro pins s σ H Q I h
  refine wpAny_Call_Name_kw (ld_glob I hg hm ?_ hdb)
  refine PySem.W.callWith_K (h₀ := X.base) I.ok.mod.kin hk (thn (ha pos pins s σ H _ I h) fun us s1 ⟨vs, H1, I1, r, q⟩ => ⟨I1.kIn, ?_⟩) he hpl
  exact run_fn F hr hb hd hx I1 r q
end
section
variable {X : Cx} {CX : CXT} {k : Nat} {f C : Addr} {fd : FuncData} {ps ks : List Str} {sp : Sp} {E : XK} {x m : Str} {p pos apos kpos : Pos} {e o : Expr} {es : List Expr} {kws : List Keyword} {te ta : TE} {t tk : TA} {nm : Option Str}
variable {g : List Value → List Value → List Value} {gV : List V → List V → List V}
end
/-- names: the parameters first -/
structure FnScope (N P : List Str) (sc : Scope) : Prop where
  kind : sc.kind = .function
  co : sc.isCoroutine = false
  gen : sc.isGenerator = false
  nd : N.Nodup
  pre : N.take P.length = P
  par : ∀ x ∈ P, sc.names.lookup x = some .local ∨ sc.names.lookup x = some .cell
  nofree : ∀ y ∈ sc.names, y.2 ≠ .free

theorem bindL_out {kindOf : Str → Option NameKind} {x : Str} : ∀ {binds : List (Str × Value)} {m : Str → Option Value}, (∀ v, (x, v) ∉ binds) → bindL kindOf binds m x = m x
  | [], _, _ => rfl
  | (n, v) :: r, m, h => by
    unfold bindL
    rw [bindL_out fun w hw => h w (List.mem_cons_of_mem _ hw)]
    split
    · have : x ≠ n := by rintro rfl; exact h v List.mem_cons_self
      simp [this]
    · rfl
theorem bindC_out {kindOf : Str → Option NameKind} {x : Str} : ∀ {binds : List (Str × Value)} {m : Str → Option Value}, (∀ v, (x, v) ∉ binds) → bindC kindOf binds m x = m x
  | [], _, _ => rfl
  | (n, v) :: r, m, h => by
    unfold bindC
    rw [bindC_out fun w hw => h w (List.mem_cons_of_mem _ hw)]
    split
    · rfl
    · have : x ≠ n := by rintro rfl; exact h v List.mem_cons_self
      simp [this]
theorem bindL_get {kindOf : Str → Option NameKind} {x : Str} {v : Value} : ∀ {P : List Str} {vs : List Value} {i : Nat} {m : Str → Option Value}, P.Nodup → P[i]? = some x → vs[i]? = some v → kindOf x = some .local →
    bindL kindOf (P.zip vs) m x = some v
  | [], _, _, _, _, h, _, _ => by simp at h
  | _ :: _, [], _, _, _, _, h, _ => by simp at h
  | p :: P, w :: vs, 0, m, nd, h1, h2, hk => by
    simp at h1 h2; subst h1; subst h2
    show bindL kindOf ((p, w) :: P.zip vs) m p = _
    unfold bindL
    rw [bindL_out fun v hv => (List.nodup_cons.mp nd).1 (List.of_mem_zip hv).1, if_pos hk]
    simp
  | p :: P, w :: vs, i + 1, m, nd, h1, h2, hk => by
    show bindL kindOf ((p, w) :: P.zip vs) m x = _
    unfold bindL
    exact bindL_get (i := i) (List.nodup_cons.mp nd).2 (by simpa using h1) (by simpa using h2) hk
theorem bindC_get {kindOf : Str → Option NameKind} {x : Str} {v : Value} : ∀ {P : List Str} {vs : List Value} {i : Nat} {m : Str → Option Value}, P.Nodup → P[i]? = some x → vs[i]? = some v → kindOf x ≠ some .local →
    bindC kindOf (P.zip vs) m x = some v
  | [], _, _, _, _, h, _, _ => by simp at h
  | _ :: _, [], _, _, _, _, h, _ => by simp at h
  | p :: P, w :: vs, 0, m, nd, h1, h2, hk => by
    simp at h1 h2; subst h1; subst h2
    show bindC kindOf ((p, w) :: P.zip vs) m p = _
    unfold bindC
    rw [bindC_out fun v hv => (List.nodup_cons.mp nd).1 (List.of_mem_zip hv).1, if_neg hk]
    simp
  | p :: P, w :: vs, i + 1, m, nd, h1, h2, hk => by
    show bindC kindOf ((p, w) :: P.zip vs) m x = _
    unfold bindC
    exact bindC_get (i := i) (List.nodup_cons.mp nd).2 (by simpa using h1) (by simpa using h2) hk

/-- the names' values at the entry -/
def start (N : List Str) (vs : List V) : St := vs.map some ++ List.replicate (N.length - vs.length) none

/-- the context of a def's body, at its entry; an exception leaves the frame, then lies as CX says -/
def cxOf (CX : CXT) (P : Program) (w : World) (K : PySem.W.Frag) (mg : Str → Option Value) (base : Heap) (N : List Str) (qual : Str) (scope : Scope) (f : Addr) (cd : Value) (A : Around) (outer : List Env) (s : Shared) (H : Hp) (E : XK) : Cx where
  prog := P
  w := w
  K := K
  mg := mg
  base := base
  A := A.deeper (envOfC qual scope s.heap.objs.size f cd)
  N := N
  s₀ := s
  H₀ := H
  env := envOfC qual scope s.heap.objs.size f cd
  outer := outer
  stack := envOfC qual scope s.heap.objs.size f cd :: outer
  ex := []
  calm := true
  fn := fun _ => true
  pn := []
  xe := fun e s' => wpAny (model P w) (A.deeper (envOfC qual scope s.heap.objs.size f cd)) (leaving (envOfC qual scope s.heap.objs.size f cd) e) (fun _ s'' => CX outer H s E e s'') (fun e' s'' => CX outer H s E e' s'') s'

theorem cell_has {sc : Scope} {n : Nat} {x : Str} (h : sc.names.lookup x = some .cell) : ∃ c, (cellsFrom n sc.names []).lookup x = some c := by
  have q := PySem.W.cellsFrom_some sc.names n [] (.inl h)
  exact Option.isSome_iff_exists.mp q

theorem inv_start {CX : CXT} {P : Program} {w : World} {K : PySem.W.Frag} {mg : Str → Option Value} {base : Heap} {N ps : List Str} {qual : Str} {scope : Scope} {f : Addr} {cd : Value} {A : Around} {outer : List Env} {s s1 : Shared} {H : Hp} {E : XK} {us : List Value} {vs : List V}
    (S : FnScope N ps scope) (hd : A.handled = none) (e0 : Env0 P w K mg base A outer s H) (hl : vs.length = ps.length) (r : Vals vs us)
    (x : InCallC s s.heap.objs.size (bindL (envOfC qual scope s.heap.objs.size f cd).kindOf (ps.zip us) fun _ => none) (cellsFrom (s.heap.objs.size + 1) scope.names []) (bindC (envOfC qual scope s.heap.objs.size f cd).kindOf (ps.zip us) fun _ => none) s1) :
    Inv (cxOf CX P w K mg base N qual scope f cd A outer s H E) [] (start N vs) H s1 := by
  have hpl : ps.length ≤ N.length := by have := congrArg List.length S.pre; rw [List.length_take] at this; omega
  obtain ⟨h1, tk, rfl, hk⟩ := x.done
  have noA : ∀ b : Addr, b ∉ (cxOf CX P w K mg base N qual scope f cd A outer s H E).ex := fun b z => absurd (show b ∈ ([] : List Addr) from z) (by simp)
  refine ⟨⟨e0.mod, S.kind, rfl, rfl, Nat.le_refl _, fun y z c h1 h2 => ?_, fun y hy => ?_, fun y c _ h => ?_, fun _ => hd, Around.frames_deeper e0.frames, .inr ⟨rfl, rfl⟩, fun b z => absurd z (noA b), e0.bs, e0.bsz, fun b _ _ => noA b, fun b z => absurd z (noA b), e0.funs, e0.frf⟩,
    rfl, e0.bare, Un.kept hk, ⟨_, x.toInCall.ns, fun i y v h1 h2 h3 => ?_⟩, fun y c h => ⟨_, x.cell y c h⟩, e0.hok.fresh (Nat.le_refl _), fun y c h => ?_, fun p hp => absurd (show p ∈ ([] : List (Addr × Obj)) from hp) (by simp), e0.hok.kept hk, ?_⟩
  · exact name_of_addr x.apart (PySem.mem_of_lookup h1) (PySem.mem_of_lookup h2)
  · have hy : scope.names.lookup y = some .cell ∨ scope.names.lookup y = some .free := hy
    rcases hy with hy | hy
    · exact cell_has hy
    · exact absurd rfl (S.nofree _ (PySem.mem_of_lookup hy))
  · exact Nat.le_of_lt (x.above y c (PySem.mem_of_lookup h))
  · have hi : i < vs.length := by
      unfold start at h2
      by_cases hi : i < vs.length
      · exact hi
      · rw [List.getElem?_append_right (by simpa using hi)] at h2
        rw [List.getElem?_replicate] at h2
        split at h2 <;> cases h2
    have ha : vs[i]? = some v := by
      unfold start at h2
      rw [List.getElem?_append_left (by simpa using hi), List.getElem?_map] at h2
      cases e : vs[i]? with
      | none => rw [e] at h2; cases h2
      | some a => rw [e] at h2; cases h2; rfl
    obtain ⟨u, hu, rv⟩ := r.get ha
    have hp : ps[i]? = some y := by
      rw [← S.pre, List.getElem?_take_of_lt (by omega)]; exact h1
    have ndP : ps.Nodup := by rw [← S.pre]; exact S.nd.sublist (List.take_sublist _ _)
    refine ⟨u, rv, ?_⟩
    rcases S.par y (List.mem_of_getElem? hp) with k | k
    · exact .inl ⟨k, bindL_get ndP hp hu k⟩
    · obtain ⟨c, e⟩ := cell_has (n := s.heap.objs.size + 1) k
      refine .inr ⟨.inl k, c, e, ?_⟩
      have q := x.cell y c e
      rw [bindC_get ndP hp hu (by show scope.names.lookup y ≠ _; rw [k]; decide)] at q
      exact q
  · exact e0.hok.fresh (Nat.le_of_lt (x.above y c (PySem.mem_of_lookup h)))
  · unfold start
    show _ = N.length
    rw [List.length_append, List.length_map, List.length_replicate]
    omega

/-- THE RULE: a def (or a method) of the text, by its body. The body's reading t is chosen for each entry; it is run at the parameters' values -/
theorem fn_of {CX : CXT} {P : Program} {w : World} {K : PySem.W.Frag} {mg : Str → Option Value} {base : Heap} {k : Nat} {f : Addr} {name qual : Str} {params : Arguments} {body : List Stmt} {scope : Scope} {dV kV doc pm cdv ct oc : Value} {an od : Option Addr}
    {osl : Array (Option Value)} {N ps : List Str} {sp : Sp} (lk : K.lookup f = some ⟨oc, od, .func (PySem.W.fnOf name qual params body scope dV kV doc pm an cdv ct), osl⟩) (hcd : PySem.W.codeIn K cdv qual = true) (S : FnScope N ps scope)
    (len : ∀ vs H Q E, sp vs H Q E → vs.length = ps.length)
    (hbody : ∀ (A : Around) (outer : List Env) (s : Shared) (H : Hp) (vs : List V) (Q : VK) (E : XK), Room k (A.deeper (envOfC qual scope s.heap.objs.size f cdv)) → sp vs H Q E →
      ∃ t, PSs (cxOf CX P w K mg base N qual scope f cdv A outer s H E) body t ∧ t { nx := fun _ H' => Q .non H', rt := Q } (start N vs) H) :
    FnOk P w K mg base CX (k + 1) f (PySem.W.fnOf name qual params body scope dV kV doc pm an cdv ct) ps sp := by
  refine ⟨len, fun A outer s H args us vs Q E hr e0 hb r hsp => ?_⟩
  have hl := len _ _ _ _ hsp
  have KX : K.In s.heap := e0.mod.kin.keeps fun b o e => (e0.bs b o e).1
  have lim : s.heap.NoLimit := e0.mod.nolimit.keeps fun b o e => (e0.bs b o e).1
  have hkind : ∀ y ∈ ps.zip us, scope.names.lookup y.1 = some .local ∨ (scope.names.lookup y.1 = some .cell ∧ ((cellsFrom (s.heap.objs.size + 1) scope.names []).lookup y.1).isSome = true) := fun ⟨n, v⟩ hy => by
    rcases S.par n (List.of_mem_zip hy).1 with q | q
    · exact .inl q
    · exact .inr ⟨q, PySem.W.cellsFrom_some _ _ _ (.inl q)⟩
  refine codeAny_call_function hr.depth (KX _ _ lk) rfl S.co S.gen rfl (PySem.W.codeRec_of KX hcd) (hb _ _ _ _ ?_)
  refine wpAny_newFunctionEnv_cells S.kind hkind fun env he s1 x => ?_
  subst he
  refine ⟨lim.keeps x.toInCall.keep, codeAny_func ?_⟩
  obtain ⟨t, ht, hq⟩ := hbody A outer s H vs Q E (hr.deeper _) hsp
  have I : Inv (cxOf CX P w K mg base N qual scope f cdv A outer s H E) [] (start N vs) H s1 := inv_start S hr.hd e0 hl r x
  refine wpAny_mono (ht [] s1 (start N vs) H _ I hq) (fun fl s' hs => ?_) fun e s' hs => hs
  have fin : ∀ {σ' : St} {H' : Hp} {v : V} {u : Value}, Inv (cxOf CX P w K mg base N qual scope f cdv A outer s H E) [] σ' H' s' → RelV v u → Q v H' → CE outer P w H s Q u s' :=
    fun {σ' H' v u} J rv q => ⟨v, H', J.os, J.bare, J.base, J.hok, rv, q⟩
  cases fl with
  | ret u =>
    obtain ⟨v, σ', H', J, rv, q⟩ := hs
    exact fin J rv q
  | next =>
    obtain ⟨σ', H', J, q⟩ := hs
    exact fin (v := V.non) (u := Value.none) J rfl q
  | brk =>
    obtain ⟨_, _, _, q⟩ := hs
    exact False.elim q
  | cont =>
    obtain ⟨_, _, _, q⟩ := hs
    exact False.elim q
end L2
namespace L2
open PySem PySem.Spec PyProof.Rows
section
variable {X : Cx} {x : Str} {p pos : Pos} {e : Expr} {es : List Expr} {t : TA} {id T : String} {r : List V → Hp → VK → Prop}
def tCB (r : List V → Hp → VK → Prop) (t : TA) : TE := fun σ H Q => t σ H fun vs H1 => r vs H1 Q
/-- f(e, ..), f a built-in function -/
theorem pe_callB (hc : CallR X (.builtin id) r) (hg : Gl X x) (hm : X.mg x = none) (hv : bootBuiltins x = some (.builtin id)) (ha : PA X (e :: es) t) (hn : x ≠ "__name__" := by decide) (hdb : (x == ("__debug__" : Str)) = false := by decide)
    (he : starEach (e :: es) X.env = (false, eval e X.env) :: starEach es X.env := by rfl) (hpl : (backTo pos (starEach es X.env)).any (·.1) = false := by rfl) : PE X (.Call (.Name x p) (e :: es) [] pos) (tCB r t) := by
  intro pins s σ H Q I h
  refine wpAny_Call_Name_kw (ld_blt I hg hm hv ?_ hn hdb)
  exact PyProof.Rows.callWith_builtin1 (thn (ha pos pins s σ H _ I h) fun us s1 ⟨vs, H1, I1, r1, q1⟩ => hc pins s1 σ H1 vs us Q I1 r1 q1) he hpl
/-- T(e, ..), T a built-in type -/
theorem pe_callTy (hc : CallR X (.type T) r) (hg : Gl X x) (hm : X.mg x = none) (hv : bootBuiltins x = some (.type T)) (ha : PA X (e :: es) t) (hn : x ≠ "__name__" := by decide) (hdb : (x == ("__debug__" : Str)) = false := by decide)
    (he : starEach (e :: es) X.env = (false, eval e X.env) :: starEach es X.env := by rfl) (hpl : (backTo pos (starEach es X.env)).any (·.1) = false := by rfl) : PE X (.Call (.Name x p) (e :: es) [] pos) (tCB r t) := by
  intro pins s σ H Q I h
  refine wpAny_Call_Name_kw (ld_blt I hg hm hv ?_ hn hdb)
  exact PyProof.Rows.callWith_type1 (thn (ha pos pins s σ H _ I h) fun us s1 ⟨vs, H1, I1, r1, q1⟩ => hc pins s1 σ H1 vs us Q I1 r1 q1) he hpl
end
end L2
namespace HT
open PySem PyProof.Rows
section
open PySem.SeqAt
open PySem.AutoSeq1 (wpAny_loadPart')
open PySem.MeetsSeq PySem.MeetsSeq2 PySem.MeetsSeq3
end
section
variable {prog : Program} {w : World} {A : Around} {E : Value → Shared → Prop} {s : Shared}
end
end HT
namespace L2
open PySem PySem.Spec PyProof.Rows
abbrev TO := St → Hp → (Option Int → Hp → Prop) → Prop
section
variable {X : Cx} {e : Expr} {te : TE} {lo hi : Option Expr} {tl th : TO} {pos p2 : Pos}
/-- what a slice of a value is, by values: the slice object stands at sl -/
def SlR (X : Cx) (r : V → Option Int → Option Int → Hp → VK → Prop) : Prop :=
  ∀ (pins : List (Addr × Obj)) (s : Shared) (σ : St) (H : Hp) (x : V) (v vl vu : Value) (lo hi : Option Int) (sl : Addr) (Q : VK), Inv X pins σ H s → RelV x v → s.heap.IsSliceOf sl vl vu .none → IsPart vl lo → IsPart vu hi → r x lo hi H Q →
    ∃ T id, typeLookup (.type T) "__getitem__" = pure (some (.builtin id)) ∧ s.TypeIs v T ∧ wpAny (model X.prog X.w) X.A (getItem v (.ref sl)) (EP X pins σ Q) X.xe s
theorem SlR.or {r r' : V → Option Int → Option Int → Hp → VK → Prop} (h : SlR X r) (h' : SlR X r') : SlR X (fun x lo hi H Q => r x lo hi H Q ∨ r' x lo hi H Q) := by
  intro pins s σ H x v vl vu lo hi sl Q I rx hs pl pu q
  rcases q with q | q
  · exact h pins s σ H x v vl vu lo hi sl Q I rx hs pl pu q
  · exact h' pins s σ H x v vl vu lo hi sl Q I rx hs pl pu q
end
end L2
namespace L2
open PySem PySem.Spec PyProof.Rows
/-- the place that an index of any sign means -/
def ixN (n : Nat) (i : Int) : Option Nat := if 0 ≤ i then (if i < n then some i.toNat else none) else if -(n : Int) ≤ i then some (i + n).toNat else none
def atI {α : Type} (xs : List α) (i : Int) : Option α := (ixN xs.length i).bind fun j => xs[j]?
theorem ixN_seq {n : Nat} {i : Int} {j : Nat} (h : ixN n i = some j) : seqIndex? i n = some j ∧ j < n ∧ -(n : Int) ≤ i ∧ i < n := by
  unfold ixN at h
  by_cases h0 : 0 ≤ i
  · rw [if_pos h0] at h
    by_cases h1 : i < n
    · rw [if_pos h1] at h
      have e : i.toNat = j := Option.some.inj h
      exact ⟨by rw [seqIndex_of h0 h1, e], by omega, by omega, h1⟩
    · rw [if_neg h1] at h; cases h
  · rw [if_neg h0] at h
    by_cases h1 : -(n : Int) ≤ i
    · rw [if_pos h1] at h
      have e : (i + n).toNat = j := Option.some.inj h
      exact ⟨by rw [seqIndex_neg (by omega) h1, e], by omega, h1, by omega⟩
    · rw [if_neg h1] at h; cases h
theorem atI_get {α : Type} {xs : List α} {i : Int} {v : α} (h : atI xs i = some v) : ∃ j, seqIndex? i xs.length = some j ∧ xs[j]? = some v ∧ j < xs.length ∧ -(xs.length : Int) ≤ i ∧ i < xs.length := by
  unfold atI at h
  cases e : ixN xs.length i with
  | none => rw [e] at h; cases h
  | some j =>
    rw [e] at h
    obtain ⟨h1, h2, h3, h4⟩ := ixN_seq e
    exact ⟨j, h1, h, h2, h3, h4⟩
theorem atI_nat {α : Type} {xs : List α} {j : Nat} {v : α} (h : xs[j]? = some v) : atI xs (j : Int) = some v := by
  have hj : j < xs.length := (List.getElem?_eq_some_iff.mp h).1
  have e : ixN xs.length (j : Int) = some j := by
    unfold ixN
    rw [if_pos (by omega), if_pos (by omega)]; simp
  unfold atI; rw [e]; exact h
/-- what stands as an index of a plain subscript -/
def PlainIx (b : Expr) : Prop := ∀ o i, subscripted b false o i = operate [o, i] (getItem o i)
/-- a subscript by values -/
def IxR (X : Cx) (r : R2) : Prop :=
  ∀ (value slice : Expr) (pins : List (Addr × Obj)) (s : Shared) (σ : St) (H : Hp) (x y : V) (v u : Value) (Q : VK), Inv X pins σ H s → RelV x v → RelV y u → r x y H Q →
    subscripted slice false v u = operate [v, u] (getItem v u) → wpAny (model X.prog X.w) X.A (subscriptTail value slice v u) (EP X pins σ Q) X.xe s
/-- a call of a builtin's method by values: the receiver, the arguments -/
def MtR (X : Cx) (id : String) (r : V → List V → Hp → VK → Prop) : Prop :=
  ∀ (pins : List (Addr × Obj)) (s : Shared) (σ : St) (H : Hp) (x : V) (xs : List V) (v : Value) (us : List Value) (Q : VK), Inv X pins σ H s → RelV x v → Vals xs us → r x xs H Q →
    wpAny (model X.prog X.w) X.A (call (.builtin id) (v :: us)) (EP X pins σ Q) X.xe s
section
variable {X : Cx} {a b : Expr} {ta tb : TE} {pos : Pos}
theorem IxR.or {r r' : R2} (h : IxR X r) (h' : IxR X r') : IxR X (fun x y H Q => r x y H Q ∨ r' x y H Q) := by
  intro value slice pins s σ H x y v u Q I rx ry q hs
  rcases q with q | q
  · exact h value slice pins s σ H x y v u Q I rx ry q hs
  · exact h' value slice pins s σ H x y v u Q I rx ry q hs
theorem MtR.or {id : String} {r r' : V → List V → Hp → VK → Prop} (h : MtR X id r) (h' : MtR X id r') : MtR X id (fun x xs H Q => r x xs H Q ∨ r' x xs H Q) := by
  intro pins s σ H x xs v us Q I rx rs q
  rcases q with q | q
  · exact h pins s σ H x xs v us Q I rx rs q
  · exact h' pins s σ H x xs v us Q I rx rs q
/-- a[b] -/
theorem pe_ix {r : R2} (hr : IxR X r) (ha : PE X a ta) (hb : PE X b tb) (hs : PlainIx b) : PE X (.Subscript a b pos) (tOp r ta tb) := by
  intro pins s σ H Q I h
  exact Subscript_ (binT ha hb I h fun v u s2 x y H2 I2 rx ry q => hr a b pins s2 σ H2 x y v u Q I2 rx ry q (hs _ _))

def rIxL (K : PySem.W.Frag) : R2 := fun x y H Q => ∃ p xs i v, x = .ref p ∧ y = .int i ∧ SqL K H p xs ∧ atI xs i = some v ∧ Q v H
def rIxT (K : PySem.W.Frag) : R2 := fun x y H Q => ∃ p xs i v, x = .ref p ∧ y = .int i ∧ SqT K H p xs ∧ atI xs i = some v ∧ Q v H
theorem ix_list : IxR X (rIxL X.K) := by
  intro value slice pins s σ H x y v u Q I rx ry h hs
  obtain ⟨p, xs, i, z, rfl, rfl, hq, he, q⟩ := h
  cases rx
  obtain ⟨t, rfl⟩ := ry
  obtain ⟨its, r, pl, hz⟩ := I.list hq
  obtain ⟨j, h1, h2, h3, h4, h5⟩ := atI_get he
  obtain ⟨w, ew, rw'⟩ := r.get h2
  have hl := r.length
  have hn := line63
  have fin : EP X pins σ Q w s := ⟨z, H, I, rw', q⟩
  by_cases h0 : 0 ≤ i
  · have hj : i.toNat = j := by
      rw [seqIndex_of h0 h5] at h1
      exact Option.some.inj h1
    exact item_listR pl.isList h0 (by omega) (by rw [hj]; simpa using ew) fin hs
  · have hj : (i + (its.toArray.size : Int)).toNat = j := by
      rw [seqIndex_neg (by omega) h4] at h1
      rw [List.size_toArray, ← hl]
      exact Option.some.inj h1
    exact subscriptTail_builtinR (x := w) pl.isList.typeIs slot_list_getitem.lookup
      (wpAny_getItem_list_neg (Q := fun r s' => r = w ∧ EP X pins σ Q r s') pl.isList (by omega) (by rw [List.size_toArray] <;> omega) (by omega) (by rw [hj]; simpa using ew) ⟨rfl, fin⟩) hs
theorem ix_tup : IxR X (rIxT X.K) := by
  intro value slice pins s σ H x y v u Q I rx ry h hs
  obtain ⟨p, xs, i, z, rfl, rfl, hq, he, q⟩ := h
  cases rx
  obtain ⟨t, rfl⟩ := ry
  obtain ⟨its, r, pl, hz⟩ := I.tuple hq
  obtain ⟨j, h1, h2, h3, h4, h5⟩ := atI_get he
  obtain ⟨w, ew, rw'⟩ := r.get h2
  have hl := r.length
  have hn := line63
  have fin : EP X pins σ Q w s := ⟨z, H, I, rw', q⟩
  exact subscriptTail_builtinR (x := w) pl.typeIs slot_tuple_getitem.lookup
    (getItem_tuple (j := j) (Q := fun r s' => r = w ∧ EP X pins σ Q r s') pl (by omega) (by omega) (by rw [List.size_toArray, ← hl]; exact h1) (by simpa using ew) ⟨rfl, fin⟩) hs
/-- the list's object behind a store -/
theorem mapSeq_set (its : List Value) (n j : Nat) (u : Value) : Obj.mapSeq (·.setIfInBounds j u) { cls := .type "list", data := .seq its.toArray n } = { cls := .type "list", data := .seq (its.set j u).toArray n } := by
  simp [Obj.mapSeq]
theorem Inv.lst {pins : List (Addr × Obj)} {σ : St} {H : Hp} {s : Shared} {p : Addr} {xs : List V} (I : Inv X pins σ H s) (h : H p = some (.lst xs)) :
    ∃ (its : List Value) (n : Nat), Vals xs its ∧ s.heap.get? p = some { cls := .type "list", data := .seq its.toArray n } ∧ xs.length ≤ sizeLine := by
  obtain ⟨z, its, n, r, e⟩ := I.hok p _ h
  exact ⟨its, n, r, e, z⟩
/-- the list at p is written by an update of its object -/
theorem Inv.lstUpd {pins : List (Addr × Obj)} {σ : St} {H : Hp} {s : Shared} {p : Addr} {xs ys : List V} {its its' : List Value} {n n' : Nat} {f : Obj → Obj} (I : Inv X pins σ H s) (h : H p = some (.lst xs))
    (ho : s.heap.get? p = some { cls := .type "list", data := .seq its.toArray n }) (hf : f { cls := .type "list", data := .seq its.toArray n } = { cls := .type "list", data := .seq its'.toArray n' }) (r : Vals ys its') (hz : ys.length ≤ sizeLine) (t : Nat) :
    Inv X pins σ (upd H p (.lst ys)) { s with heap := s.heap.update p f, toks := t } := by
  have e : (s.heap.update p f).get? p = some { cls := .type "list", data := .seq its'.toArray n' } := by
    rw [Heap.get?_update_self f ho (by rw [hf] <;> rfl), hf]
  refine I.write (x := p) (e := p) (by rw [h]; trivial) (.inl rfl) (fun b u hb q => (Heap.get?_update_other _ _ (Ne.symm hb)).trans q) ⟨_, e⟩ ?_
  exact ⟨hz, its', n', r, e⟩
def rSetL : V → V → V → Hp → (Hp → Prop) → Prop := fun o i v H Q => ∃ p xs k j, o = .ref p ∧ i = .int k ∧ H p = some (.lst xs) ∧ ixN xs.length k = some j ∧ Q (upd H p (.lst (xs.set j v)))
theorem set_list : PSet X rSetL := by
  intro pins s σ H o i v ov iv u Q I ro ri rv h
  obtain ⟨p, xs, k, j, rfl, rfl, hp, hj, q⟩ := h
  cases ro
  obtain ⟨t, rfl⟩ := ri
  obtain ⟨its, n, r, ho, hz⟩ := I.lst hp
  obtain ⟨h1, h2, h3, h4⟩ := ixN_seq hj
  have hl := r.length
  have hn := line63
  have I' : Inv X pins σ (upd H p (.lst (xs.set j v))) { s with heap := s.heap.update p (Obj.mapSeq (·.setIfInBounds j u)) } :=
    I.lstUpd hp ho (mapSeq_set its n j u) (r.set rv j) (by rw [List.length_set]; exact hz) s.toks
  by_cases h0 : 0 ≤ k
  · have hk : k.toNat = j := by
      rw [seqIndex_of h0 h4] at h1
      exact Option.some.inj h1
    exact PySem.W.ki_setAt ho h0 (by omega) (by rw [List.size_toArray, ← hl]; exact h4) (by rw [hk]; exact ⟨_, I', q⟩)
  · have hk : (k + (its.toArray.size : Int)).toNat = j := by
      rw [seqIndex_neg (by omega) h3] at h1
      rw [List.size_toArray, ← hl]
      exact Option.some.inj h1
    exact PySem.W.ki_setBack ho (by omega) (by rw [List.size_toArray, ← hl]; exact h3) (by omega) (by rw [hk]; exact ⟨_, I', q⟩)

def flatV : V → Bool
  | .non => true
  | .bl _ => true
  | .int _ => true
  | .str _ => true
  | _ => false
/-- == of flat values -/
def eqV : V → V → Bool
  | .non, .non => true
  | .bl a, .bl b => a == b
  | .bl a, .int b => (if a then 1 else 0) == b
  | .int a, .bl b => a == (if b then 1 else 0)
  | .int a, .int b => a == b
  | .str a, .str b => a == b
  | _, _ => false
theorem eqAt_V {A : Around} {s : Shared} {y x : V} {u v : Value} (ry : RelV y u) (rx : RelV x v) (fy : flatV y = true) (fx : flatV x = true) : SeqAt.EqAt A s u v (eqV y x) := by
  cases y with
  | non =>
    cases ry
    cases x with
    | non => cases rx; exact SeqAt.EqAt.same _
    | bl b => cases rx; exact SeqAt.EqAt.none_bool b
    | int b => obtain ⟨t, rfl⟩ := rx; exact SeqAt.EqAt.none_int b t
    | str b => obtain ⟨t, rfl⟩ := rx; exact SeqAt.EqAt.none_str b t
    | _ => exact absurd (show false = true from fx) Bool.false_ne_true
  | bl a =>
    cases ry
    cases x with
    | non => cases rx; exact SeqAt.EqAt.bool_none a
    | bl b => cases rx; exact SeqAt.EqAt.bool_bool a b
    | int b => obtain ⟨t, rfl⟩ := rx; exact SeqAt.EqAt.bool_int a b t
    | str b => obtain ⟨t, rfl⟩ := rx; exact SeqAt.EqAt.bool_str a b t
    | _ => exact absurd (show false = true from fx) Bool.false_ne_true
  | int a =>
    obtain ⟨t', rfl⟩ := ry
    cases x with
    | non => cases rx; exact SeqAt.EqAt.int_none a t'
    | bl b => cases rx; exact SeqAt.EqAt.int_bool a t' b
    | int b => obtain ⟨t, rfl⟩ := rx; exact SeqAt.EqAt.int_int a t' b t
    | str b => obtain ⟨t, rfl⟩ := rx; exact SeqAt.EqAt.int_str a t' b t
    | _ => exact absurd (show false = true from fx) Bool.false_ne_true
  | str a =>
    obtain ⟨t', rfl⟩ := ry
    cases x with
    | non => cases rx; exact SeqAt.EqAt.str_none a t'
    | bl b => cases rx; exact SeqAt.EqAt.str_bool a t' b
    | int b => obtain ⟨t, rfl⟩ := rx; exact SeqAt.EqAt.str_int a t' b t
    | str b => obtain ⟨t, rfl⟩ := rx; exact SeqAt.EqAt.str_str a t' b t
    | _ => exact absurd (show false = true from fx) Bool.false_ne_true
  | _ => exact absurd (show false = true from fy) Bool.false_ne_true
/-- the items' answers, read off the values (a value's own answer does not lean on its token) -/
def eqU (x : V) (u : Value) : Bool := match u with
  | .none => eqV .non x
  | .bool b => eqV (.bl b) x
  | .int i _ => eqV (.int i) x
  | .str z _ => eqV (.str z) x
  | _ => false
theorem eqU_of {x y : V} {u : Value} (r : RelV y u) (f : flatV y = true) : eqU x u = eqV y x := by
  cases y with
  | non => cases r; rfl
  | bl b => cases r; rfl
  | int i => obtain ⟨t, rfl⟩ := r; rfl
  | str z => obtain ⟨t, rfl⟩ := r; rfl
  | _ => exact absurd (show false = true from f) Bool.false_ne_true
theorem any_eqU {x : V} : ∀ {xs : List V} {us : List Value}, Vals xs us → xs.all flatV = true → us.any (eqU x) = xs.any fun y => eqV y x
  | _, _, .nil, _ => rfl
  | y :: xs, u :: us, .cons r t, f => by
    rw [List.all_cons, Bool.and_eq_true] at f
    rw [List.any_cons, List.any_cons, eqU_of r f.1, any_eqU t f.2]
theorem mem_eqAt {A : Around} {s : Shared} {x : V} {v : Value} (rx : RelV x v) (fx : flatV x = true) : ∀ {xs : List V} {us : List Value}, Vals xs us → xs.all flatV = true → ∀ u ∈ us, SeqAt.EqAt A s u v (eqU x u)
  | _, _, .nil, _ => fun u hu => by cases hu
  | y :: xs, u :: us, .cons r t, f => fun u' hu => by
    rw [List.all_cons, Bool.and_eq_true] at f
    rcases List.mem_cons.mp hu with rfl | hu
    · rw [eqU_of r f.1]; exact eqAt_V r rx f.1 fx
    · exact mem_eqAt rx fx t f.2 u' hu
def inV (x : V) (xs : List V) : Bool := xs.any fun y => eqV y x
/-- x in a list or tuple of flat items -/
def rIn (K : PySem.W.Frag) (neg : Bool) : R2 := fun x y H Q => ∃ p xs, y = .ref p ∧ (SqL K H p xs ∨ SqT K H p xs) ∧ flatV x = true ∧ xs.all flatV = true ∧ Q (.bl (if neg then !inV x xs else inV x xs)) H
theorem op_in_seq : OpR X (compareOp .In) (rIn X.K false) := by
  intro pins s σ H x y v u Q I rx ry h
  obtain ⟨p, xs, rfl, hq, fx, fs, q⟩ := h
  cases ry
  rcases hq with hq | hq
  · obtain ⟨its, r, pl, hz⟩ := I.list hq
    refine SeqAt.in_listAt (eqU x) pl.isList (fun w hw => mem_eqAt rx fx r fs w (by simpa using hw)) ⟨.bl _, H, I, rfl, ?_⟩
    rw [show its.toArray.any (eqU x) = its.any (eqU x) by simp, any_eqU r fs]
    exact q
  · obtain ⟨its, r, pl, hz⟩ := I.tuple hq
    refine SeqAt.in_tupleAt (eqU x) pl (fun w hw => mem_eqAt rx fx r fs w (by simpa using hw)) ⟨.bl _, H, I, rfl, ?_⟩
    rw [show its.toArray.any (eqU x) = its.any (eqU x) by simp, any_eqU r fs]
    exact q
theorem op_notIn_seq : OpR X (compareOp .NotIn) (rIn X.K true) := by
  intro pins s σ H x y v u Q I rx ry h
  obtain ⟨p, xs, rfl, hq, fx, fs, q⟩ := h
  cases ry
  rcases hq with hq | hq
  · obtain ⟨its, r, pl, hz⟩ := I.list hq
    refine SeqAt.notIn_listAt (eqU x) pl.isList (fun w hw => mem_eqAt rx fx r fs w (by simpa using hw)) ⟨.bl _, H, I, rfl, ?_⟩
    rw [show its.toArray.any (eqU x) = its.any (eqU x) by simp, any_eqU r fs]
    exact q
  · obtain ⟨its, r, pl, hz⟩ := I.tuple hq
    refine SeqAt.notIn_tupleAt (eqU x) pl (fun w hw => mem_eqAt rx fx r fs w (by simpa using hw)) ⟨.bl _, H, I, rfl, ?_⟩
    rw [show its.toArray.any (eqU x) = its.any (eqU x) by simp, any_eqU r fs]
    exact q
theorem call_len_seq : CallR X (.builtin "len") (fun xs H Q => ∃ p ys, xs = [.ref p] ∧ (SqL X.K H p ys ∨ SqT X.K H p ys) ∧ Q (.int ys.length) H) := by
  intro pins s σ H xs us Q I r h
  obtain ⟨p, ys, rfl, hq, q⟩ := h
  obtain ⟨u, rfl, rx⟩ := vals1 r
  cases rx
  have hn := line63
  rcases hq with hq | hq
  · obtain ⟨its, r', pl, hz⟩ := I.list hq
    have hlen := r'.length
    exact Calls.call_len_list pl.isList (by simp only [List.size_toArray] <;> omega) ⟨.int ys.length, H, I.tok _, ⟨s.toks + 1, by rw [List.size_toArray, hlen]⟩, q⟩
  · obtain ⟨its, r', pl, hz⟩ := I.tuple hq
    have hlen := r'.length
    exact len_tuple pl (by simp only [List.size_toArray] <;> omega) ⟨.int ys.length, H, I.tok _, ⟨s.toks + 1, by rw [List.size_toArray, hlen]⟩, q⟩
theorem CallR.or {f : Value} {r r' : List V → Hp → VK → Prop} (h : CallR X f r) (h' : CallR X f r') : CallR X f (fun xs H Q => r xs H Q ∨ r' xs H Q) := by
  intro pins s σ H xs us Q I rs q
  rcases q with q | q
  · exact h pins s σ H xs us Q I rs q
  · exact h' pins s σ H xs us Q I rs q
theorem call_list_of : CallR X (.type "list") (fun xs H Q => ∃ p ys, xs = [.ref p] ∧ (SqL X.K H p ys ∨ SqT X.K H p ys) ∧ ∀ l, H l = none → Q (.ref l) (upd H l (.lst ys))) := by
  intro pins s σ H xs us Q I r h
  obtain ⟨p, ys, rfl, hq, q⟩ := h
  obtain ⟨u, rfl, rx⟩ := vals1 r
  cases rx
  have fin : ∀ (its : List Value), Vals ys its → ys.length ≤ sizeLine → ∀ (h' : Heap) (c' : Nat), (∀ b o', s.heap.get? b = some o' → h'.get? b = some o') →
      h'.get? s.heap.objs.size = some { cls := .type "list", dict := none, data := .seq its.toArray c', slots := #[] } → EP X pins σ Q (.ref s.heap.objs.size) { s with heap := h' } := fun its r' hz h' c' kp e =>
    ⟨.ref s.heap.objs.size, _, I.laid (t' := s.toks) kp (Nat.le_refl _) (show ObjOk X.prog X.w _ h' _ (.lst ys) from ⟨hz, its, c', r', e⟩), rfl, q _ (I.hok.fresh (Nat.le_refl _))⟩
  rcases hq with hq | hq
  · obtain ⟨its, r', pl, hz⟩ := I.list hq
    have hlen := r'.length
    obtain ⟨o, ho, hc, n, hd⟩ := pl.isList
    exact call_list_seq p (.inl rfl) ho hc hd (fun h' c' kp e => fin its r' hz h' c' kp e) (by simp only [List.size_toArray] <;> omega)
  · obtain ⟨its, r', pl, hz⟩ := I.tuple hq
    have hlen := r'.length
    obtain ⟨o, ho, hc, n, hd⟩ := pl
    exact call_list_seq p (.inr rfl) ho hc hd (fun h' c' kp e => fin its r' hz h' c' kp e) (by simp only [List.size_toArray] <;> omega)
/-- the value is of that builtin type -/
def tyV (K : PySem.W.Frag) (T : String) (x : V) (H : Hp) : Prop := match x with
  | .str _ => T = "str"
  | .int _ => T = "int"
  | .ref p => (T = "list" ∧ ∃ xs, SqL K H p xs) ∨ (T = "tuple" ∧ ∃ o, K.lookup p = some o ∧ o.cls = .type "tuple" ∧ o.dict = none) ∨
      (T = "dict" ∧ ((∃ kvs, H p = some (.dK kvs)) ∨ ∃ kvs, H p = some (.dT kvs))) ∨ (T = "set" ∧ ∃ S n, H p = some (.set S n))
  | _ => False
theorem tyV_is {pins : List (Addr × Obj)} {σ : St} {H : Hp} {s : Shared} {T : String} {x : V} {v : Value} (I : Inv X pins σ H s) (r : RelV x v) (ty : tyV X.K T x H) :
    s.TypeIs v T ∧ ∀ a, v = .ref a → ∃ ob, s.heap.get? a = some ob ∧ ob.dict = none := by
  cases x with
  | str z =>
    obtain ⟨t, rfl⟩ := r
    cases (show T = "str" from ty)
    exact ⟨typeIs_str s z t, fun _ e => nomatch e⟩
  | int i =>
    obtain ⟨t, rfl⟩ := r
    cases (show T = "int" from ty)
    exact ⟨typeIs_int s i t, fun _ e => nomatch e⟩
  | ref p =>
    cases r
    rcases ty with ⟨rfl, xs, hq⟩ | ⟨rfl, o, hk, hc, hd⟩ | ⟨rfl, hk⟩ | ⟨rfl, S, n, hk⟩
    · obtain ⟨its, _, pl, _⟩ := I.list hq
      refine ⟨pl.isList.typeIs, fun a e => ?_⟩
      cases e
      obtain ⟨o, n, e, c, hd, _⟩ := pl
      exact ⟨o, e, hd⟩
    · refine ⟨⟨o, I.kIn p o hk, hc⟩, fun a e => ?_⟩
      cases e
      exact ⟨o, I.kIn _ o hk, hd⟩
    · have z : ∃ o, s.heap.get? p = some o ∧ o.ExactDict := by
        rcases hk with ⟨kvs, hk⟩ | ⟨kvs, hk⟩
        · obtain ⟨_, _, _, _, o, _, _, e, ex, _⟩ := I.hok p _ hk
          exact ⟨o, e, ex⟩
        · obtain ⟨_, _, _, _, o, _, _, e, ex, _⟩ := I.hok p _ hk
          exact ⟨o, e, ex⟩
      obtain ⟨o, e, ex⟩ := z
      refine ⟨⟨o, e, ex.1⟩, fun a e2 => ?_⟩
      cases e2
      exact ⟨o, e, ex.2.1⟩
    · obtain ⟨o, _, _, _, e, ex, _⟩ := I.hok p _ hk
      refine ⟨⟨o, e, ex.1⟩, fun a e2 => ?_⟩
      cases e2
      exact ⟨o, e, ex.2.1⟩
  | _ => exact False.elim ty
def tBM (K : PySem.W.Frag) (T : String) (r : V → List V → Hp → VK → Prop) (to : TE) (t : TA) : TE := fun σ H Q => to σ H fun x H1 => tyV K T x H1 ∧ t σ H1 fun xs H2 => r x xs H2 Q
variable {o e : Expr} {es : List Expr} {to : TE} {t : TA} {name : Str} {apos cpos : Pos} {T id : String} {r : V → List V → Hp → VK → Prop}
theorem pe_bm (pa : PlainAttrs T) (slot : Slot T name id) (hty : typeOf (.builtin id) = pure (.type "method_descriptor")) (hm : MtR X id r) (ho : PE X o to) (ha : PA X (e :: es) t)
    (hbase : attributeBase o name X.env (eval o X.env) = eval o X.env := by rfl)
    (hfew : ((backTo cpos (starEach (e :: es) X.env)).all (fun x => !x.1) && (backToKw cpos (keywordEach [] X.env)).all (fun x => x.1.isSome)
      && decide ((e :: es).length + ([] : List Keyword).length + (if ([] : List Keyword).isEmpty then 0 else 1) < 30)) = true := by rfl)
    (hline : (apos.endLine == cpos.line) = true := by rfl) (hs : starEach (e :: es) X.env = (false, eval e X.env) :: starEach es X.env := by rfl) (hplain : (backTo cpos (starEach es X.env)).any (·.1) = false := by rfl) :
    PE X (.Call (.Attribute o name apos) (e :: es) [] cpos) (tBM X.K T r to t) := by
  intro pins s σ H Q I h
  refine wpAny_Call_method_late hbase hfew hline rfl (thn (ho pins s σ H _ I h) fun v s1 ⟨x, H1, I1, r1, ty, q1⟩ => ?_)
  obtain ⟨h1, h2⟩ := tyV_is I1 r1 ty
  refine ⟨T, id, pa, slot, hty, h1, h2, ?_⟩
  have hA := ha cpos pins s1 σ H1 _ I1 q1
  rw [hs] at hA ⊢
  refine Calls.callWith_builtin (by show (false || (backTo cpos (starEach es X.env)).any (·.1)) = false; rw [hplain] <;> rfl) (Calls.evalArgs_plain ?_)
  exact thn hA fun us s2 ⟨vs, H2, I2, r2, q2⟩ => hm pins s2 σ H2 x vs v us Q I2 r1 r2 q2
end
end L2
namespace L2
open PySem PySem.Spec PyProof.Rows
def MtM (X : Cx) (id : String) (r : V → List V → Hp → VK → Prop) : Prop :=
  ∀ (pins : List (Addr × Obj)) (s : Shared) (σ : St) (H : Hp) (x : V) (xs : List V) (v : Value) (us : List Value) (Q : VK), Inv X pins σ H s → RelV x v → Vals xs us → r x xs H Q →
    wpAny (model X.prog X.w) X.A (call (.builtin id) (v :: us)) (EP X pins σ Q) X.xe s

theorem Vals.one : ∀ {x : V} {us : List Value}, Vals [x] us → ∃ u, us = [u] ∧ RelV x u
  | _, _, .cons r .nil => ⟨_, rfl, r⟩
theorem Vals.two : ∀ {x y : V} {us : List Value}, Vals [x, y] us → ∃ u v, us = [u, v] ∧ RelV x u ∧ RelV y v
  | _, _, _, .cons r (.cons q .nil) => ⟨_, _, rfl, r, q⟩
theorem Vals.zero : ∀ {us : List Value}, Vals [] us → us = []
  | _, .nil => rfl
section
variable {X : Cx} {pins : List (Addr × Obj)} {σ : St} {H : Hp} {s : Shared} {l b : Addr} {xs ys zs : List V}
theorem Inv.lset {its its' : List Value} {n : Nat} {f : Array Value → Array Value} {t' : Nat} (I : Inv X pins σ H s) (hH : H l = some (.lst xs))
    (e : s.heap.get? l = some { cls := .type "list", data := .seq its.toArray n }) (hf : f its.toArray = its'.toArray) (hv : Vals ys its') (hz : ys.length ≤ sizeLine) :
    Inv X pins σ (upd H l (.lst ys)) { s with heap := s.heap.update l (Obj.mapSeq f), toks := t' } := by
  have q := PySem.IsL.update e f
  rw [hf] at q
  refine I.write (x := l) (e := l) (by rw [hH]; exact trivial) (.inl rfl) (fun b' u hb hu => (Heap.get?_update_other s.heap (Obj.mapSeq f) (Ne.symm hb)).trans hu) ⟨_, q⟩ ?_
  exact ⟨hz, its', _, hv, q⟩
theorem Inv.fresh (I : Inv X pins σ H s) : H s.heap.objs.size = none := I.hok.fresh (Nat.le_refl _)
theorem Inv.lstM (I : Inv X pins σ H s) (hH : H l = some (.lst xs)) : xs.length ≤ sizeLine ∧ ∃ (its : List Value) (n : Nat), Vals xs its ∧ xs.length = its.length ∧ s.heap.get? l = some { cls := .type "list", data := .seq its.toArray n } := by
  obtain ⟨z, its, n, r, e⟩ := I.hok l _ hH
  exact ⟨z, its, n, r, r.length, e⟩

end
section
variable {X : Cx}
def rAppend : V → List V → Hp → VK → Prop := fun x vs H Q => ∃ l xs y, x = .ref l ∧ vs = [y] ∧ H l = some (.lst xs) ∧ xs.length < sizeLine ∧ Q .non (upd H l (.lst (xs ++ [y])))
theorem mt_append : MtM X "list.append" rAppend := by
  intro pins s σ H x vs v us Q I rx rv h
  obtain ⟨l, xs, y, rfl, rfl, hH, hz, q⟩ := h
  cases rx
  obtain ⟨u, rfl, ru⟩ := rv.one
  obtain ⟨z, its, n, r, hl, e⟩ := I.lstM hH
  refine call_meets F.slot_list_append ⟨_, e, rfl⟩ F.entry_list_append (F.args_list_append_2 _ _) (PySem.list_append l its.toArray n u (by rw [List.size_toArray]; omega)) ⟨e, ?_⟩
  refine ⟨.non, _, I.lset (its' := its ++ [u]) hH e (by simp) (r.append (.cons ru .nil)) ?_, rfl, q⟩
  rw [List.length_append, List.length_singleton]
  omega

end
section
variable {prog : Program} {w : World} {A : Around} {E : Value → Shared → Prop} {s : Shared}
end
section
variable {X : Cx}
end
end L2
namespace Att
open PySem PySem.W PySem.Calls PyProof.Rows
theorem ints_of_wellAll {P : Params} {h : Heap} : ∀ (ns : List Int) (vs : List Value), WellAll P h vs (ns.map WData.int) → IntsAre vs ns := by
  intro ns
  induction ns with
  | nil =>
    intro vs w
    rw [List.map_nil] at w
    cases w
    exact .nil
  | cons n ns ih =>
    intro vs w
    rw [List.map_cons] at w
    cases w with
    | cons a b =>
      cases a
      exact .cons _ _ (ih _ b)

theorem script_of {l : OpenLaw} {n : Nat} (hn : l.most = some n) {P : Params} {h : Heap} {args : List WData} {vals : List Value}
    (hpre : l.row.toRowW.claim.pre args = true) (hwl : WellAll P h vals args) :
    ∃ a vs ns, vals = [Value.ref a] ∧ args = [WData.list (ns.map WData.int)] ∧ h.get? a = some { cls := .type "list", data := .seq vs.toArray } ∧ IntsAre vs ns ∧ ns.length ≤ n := by
  have hsh : WShape.hasAll [] args [.list .int] = true := (pre_splitW hpre).1
  have hc : l.pre.holds [] { args := args } = true := (pre_splitW hpre).2
  obtain ⟨d, r, rfl, h1, h2⟩ := hasAllW_cons hsh
  obtain rfl := hasAllW_nil h2
  obtain ⟨xs, rfl, h3⟩ := hasW_list h1
  obtain ⟨ns, rfl⟩ := items_int h3
  have hlen : ns.length ≤ n := by
    unfold OpenLaw.pre at hc
    have h4 : (WTm.not (.lt (.lit (.int (n : Int))) (.len (.arg 0)))).holds [] { args := [.list (ns.map .int)] } = true := by
      have h4 := (holds_andW hc).1
      rw [hn] at h4
      exact h4
    have h5 := condW_of h4 (w_not (w_lt w_lit (w_len_list (w_arg rfl))))
    rw [List.length_map] at h5
    refine Nat.le_of_not_lt fun q => ?_
    have q' : (n : Int) < ((ns.length : Nat) : Int) := by omega
    first
      | (rw [decide_eq_true q'] at h5; exact absurd h5 (by decide))
      | (simp at h5; omega)
  cases hwl with
  | cons w1 w2 =>
    cases w2
    cases w1 with
    | list ho hall => exact ⟨_, _, ns, rfl, rfl, ho, ints_of_wellAll ns _ hall, hlen⟩

theorem post_true (l : OpenLaw) (args : List WData) : l.row.toRowW.claim.post args (.bool true) args = true :=
  postW_of (r := l.row.toRowW) (X := (true == true))
    (show WShape.has [] (.bool true) .bool = true by first | rfl | decide | simp [WShape.has, WShape.arms, WShape.armsAll])
    (show (WTm.eq .res (.lit (.bool true))).value [] { args := args, res := some (.bool true), after := args } = some (.bool (true == true)) from w_eq_bool (w_res rfl) w_lit) rfl

/-- the same from a codeAny of the CALL (for a layer whose function contracts speak of calls) -/
theorem attach_call {l : OpenLaw} {n : Nat} {q : Program} {loose : List Str} {XP : (Str → Option Value) → Heap → Prop} {YP : World → Heap → Prop} {d : DefRec}
    (hn : l.most = some n) (hdf : d.params.defaults = [])
    (call : ∀ (w : World) (s₀ s₁ : Shared) (mg mb : Str → Option Value) (fa : Addr) (o : Obj) (pm cd doc : Value) (a : Addr) (vs : List Value) (ns : List Int),
      Ground q loose [] XP w s₀ mg mb s₁.heap → YP w s₁.heap →
      s₁.heap.get? fa = some o → o.data = .func (docDef d.name d.params d.body d.scope pm cd doc) → s₁.heap.CodeRec cd d.name → mg d.name = some (.ref fa) →
      s₁.heap.get? a = some { cls := .type "list", data := .seq vs.toArray } → IntsAre vs ns → ns.length ≤ n → s₁.gens = #[] →
      codeAny (model l.prog w) callerA (.call (.ref fa) ⟨[.ref a], []⟩) (fun r s' => r = .ok (.ret (.bool true)) ∧ OldK s₁.heap s'.heap ∧ s'.os = s₁.os ∧ AllBare s'.gens) s₁) :
    WalkO q loose XP YP l.row.toRowW d [] (fun f vs => PySem.call f vs) := by
  intro w s₀ s₁ mg mb G Y fa o pm cd doc dV kV ho hd hcd hD hmg hg args vals as hpre hlay hrd hwl hlo
  obtain rfl : dV = .none := Dflts.none hD hdf
  obtain rfl : kV = .none := Dflts.noKw hD
  obtain ⟨a, vs, ns, rfl, rfl, hobj, hints, hlen⟩ := script_of hn hpre hwl
  refine enter_call (codeAny_mono (call w s₀ s₁ mg mb fa o pm cd doc a vs ns G Y ho (fd_plain hd) hcd hmg hobj hints hlen hg) fun r s' hq => ?_)
  obtain ⟨rfl, h2, h3, h4⟩ := hq
  exact ⟨.inl ⟨.bool true, .bool true, [], rfl, fun _ => rfl, .bool true, post_true l _, fun _ => ⟨List.Pairwise.nil, fun _ hm => (nomatch hm)⟩⟩, h2, h3, h4⟩

section
variable {prog : Program} {w : World} {A : Around} {E : Value → Shared → Prop} {s : Shared} {K : Frag}
end
end Att
namespace L2
open PySem PySem.Spec PyProof.Rows
theorem vals_ints : ∀ {vs : List Value} {ns : List Int}, IntsAre vs ns → Vals (ns.map V.int) vs
  | _, _, .nil => .nil
  | _, _, .cons n t h => .cons ⟨t, rfl⟩ (vals_ints h)

/-- nothing is tracked but the script, known to the object (or it is an object of the module) -/
def Only (H : Hp) : Prop := ∀ b, H b = none ∨ ∃ o xs, H b = some (.frz o (.lst xs))

/-- THE HEAD: the law's promise, at the heap behind the top. F, the promise of the law's def, may use that base is part of the heap (so K.In base, base.Ns mainGlobals mg stand in Mod) -/
theorem law_call {P : Program} {w : World} {K : PySem.W.Frag} {mg mb : Str → Option Value} {CX : CXT} {k : Nat} {fa a : Addr} {fd : FuncData} {x : Str} {sp : Sp} {s₁ : Shared} {vs : List Value} {ns : List Int}
    (KX : K.In s₁.heap) (hns : s₁.heap.Ns mainGlobals mg) (hb : s₁.heap.Ns builtinsNs mb) (hbb : ∀ x : Str, x ≠ "__name__" → mb x = bootBuiltins x) (hlim : s₁.heap.NoLimit) (hg : s₁.gens = #[])
    (ha : s₁.heap.get? a = some { cls := .type "list", data := .seq vs.toArray }) (hi : IntsAre vs ns) (hl : ns.length ≤ sizeLine) (hr : Room k callerA)
    (F : ∀ base : Heap, K.In base → base.Ns mainGlobals mg → FnOk P w K mg base CX k fa fd [x] sp) (hbind : ∀ (s : Shared) (u : Value), BindsTo s fd ⟨[u], []⟩ [(x, u)])
    (hsp : ∀ H : Hp, Only H → SqL K H a (ns.map V.int) → sp [.ref a] H (fun v _ => v = .bl true) fun _ _ _ => False)
    (hCX : ∀ H e s', CX [] H s₁ (fun _ _ _ => False) e s' → False) :
    codeAny (model P w) callerA (.call (.ref fa) ⟨[.ref a], []⟩) (fun r s' => r = .ok (.ret (.bool true)) ∧ OldK s₁.heap s'.heap ∧ s'.os = s₁.os ∧ AllBare s'.gens) s₁ := by
  have rv := vals_ints hi
  have lenV := hi.length
  -- from an abstract heap in which nothing but the script may be tracked
  have core : ∀ H : Hp, Only H → SqL K H a (ns.map V.int) → HOk P w H s₁.heap → (∀ b, H b ≠ none → b = a) → (H a ≠ none → K.lookup a = none) →
      codeAny (model P w) callerA (.call (.ref fa) ⟨[.ref a], []⟩) (fun r s' => r = .ok (.ret (.bool true)) ∧ OldK s₁.heap s'.heap ∧ s'.os = s₁.os ∧ AllBare s'.gens) s₁ := by
    intro H hO hS hok hA hK
    have base_of : ∀ {b : Addr} {o : Obj}, s₁.heap.get? b = some o → H b = none → (hidT s₁.heap H).get? b = some o := fun e n => hidT_get e n
    have noA : ∀ {b : Addr} {o : Obj} {es : Array DictEntry} {ep : Nat}, s₁.heap.get? b = some o → o.data = .dict es ep → H b = none := fun {b o es ep} e d => by
      cases q : H b with
      | none => rfl
      | some u =>
        have e' : b = a := hA b (by rw [q]; simp)
        subst e'
        rw [ha] at e; cases e
        have d' : Data.seq vs.toArray _ = Data.dict es ep := d
        cases d'
    have nsK : ∀ {b : Addr} {m : Str → Option Value}, s₁.heap.Ns b m → (hidT s₁.heap H).Ns b m := fun {b m} ⟨o, es, ep, e, d, r⟩ => ⟨o, es, ep, base_of e (noA e d), d, r⟩
    have hKb : K.In (hidT s₁.heap H) := fun b o e => base_of (KX b o e) (by
      cases q : H b with
      | none => rfl
      | some u =>
        have e' : b = a := hA b (by rw [q]; simp)
        subst e'
        rw [hK (by rw [q]; simp)] at e; cases e)
    have hM : Mod K mg (hidT s₁.heap H) := ⟨hKb, nsK hns, ⟨mb, nsK hb, hbb⟩, let ⟨mc, h1, h2⟩ := hlim; ⟨mc, nsK h1, h2⟩⟩
    have e0 : Env0 P w K mg (hidT s₁.heap H) callerA [] s₁ H := ⟨rfl, hM, fun b o e => of_hidT e, Nat.le_of_eq (hidT_size _ _), trivial, fun b hb => absurd (show b ∈ ([] : List Addr) from hb) (by simp), hok, .of_eq hg⟩
    refine codeAny_mono ((F _ hKb (nsK hns)).run callerA [] s₁ H ⟨[.ref a], []⟩ [.ref a] [.ref a] _ _ hr e0 (hbind s₁ (.ref a)) (.cons rfl .nil) (hsp H hO hS)) fun r s' h => ?_
    cases r with
    | error e => exact (hCX H e s' h).elim
    | ok fl =>
      cases fl with
      | next => exact False.elim h
      | brk => exact False.elim h
      | cont => exact False.elim h
      | ret u =>
        obtain ⟨v, H', os, bare, un, hok', r', q⟩ := h
        have q' : v = .bl true := q
        subst q'
        obtain rfl : u = Value.bool true := r'
        refine ⟨rfl, OldK.of_keep fun b o e => ?_, os, bare⟩
        cases q : H b with
        | none => exact un.keep b o e q (by intro z; exact absurd (show b ∈ ([] : List Addr) from z) (by simp)) (by simp)
        | some u =>
          rcases hO b with z | ⟨ob, xs, z⟩
          · rw [q] at z; cases z
          · have z2 := un.frzs b ob _ z
            obtain ⟨e1, _⟩ := hok b _ z
            obtain ⟨e2, _⟩ := hok' b _ z2
            rw [e] at e1; cases e1
            exact e2
  cases hk : K.lookup a with
  | some o =>
    -- the script is one of the module's own objects
    have e := KX a o hk
    rw [ha] at e
    cases e
    refine core (fun _ => none) (fun _ => .inl rfl) (.inr ⟨_, vs.toArray, _, hk, rfl, rfl, rfl, by rw [List.size_toArray, lenV]; exact hl, by simpa using rv⟩) (fun b u z => by have z' : (none : Option HO) = some u := z; cases z') (fun b z => absurd rfl z) fun z => absurd rfl z
  | none =>
    refine core (fun b => if b = a then some (.frz { cls := .type "list", data := .seq vs.toArray } (.lst (ns.map V.int))) else none) (fun b => ?_) (.inl (.inr ⟨{ cls := .type "list", data := .seq vs.toArray }, if_pos rfl⟩)) (fun b u z => ?_) (fun b z => ?_) fun _ => hk
    · by_cases hb : b = a
      · exact .inr ⟨_, _, if_pos hb⟩
      · exact .inl (if_neg hb)
    · by_cases hb : b = a
      · have z' := (if_pos hb).symm.trans z
        cases z'
        subst hb
        exact ⟨ha, by rw [List.length_map]; exact hl, vs, _, rv, ha⟩
      · have z' := (if_neg hb).symm.trans z
        cases z'
    · by_cases hb : b = a
      · exact hb
      · exact absurd (if_neg hb) z
end L2
namespace L2
open PySem PySem.Spec PyProof.Rows
/-- the goal that k_head leaves (case hc), from the law's promise. F gives the function object fd (K's own) once, then the promise over every base -/
theorem walk_of {l : PySem.W.OpenLaw} {n k : Nat} {q : Program} {loose : List Str} {XP : (Str → Option Value) → Heap → Prop} {YP : World → Heap → Prop} {d : DefRec} {K : Params → PySem.W.Frag} {CX : World → CXT} {sp : World → Sp} {x : Str}
    (hn : l.most = some n) (hn2 : n ≤ sizeLine) (hdf : d.params.defaults = []) (hr : Room k callerA)
    (hY : ∀ (w : World) (h : Heap), YP w h → (K w.params).In h)
    (F : ∀ (w : World) (mg : Str → Option Value) (fa : Addr) (h : Heap), (K w.params).In h → h.Ns mainGlobals mg → mg d.name = some (.ref fa) →
      ∃ fd : FuncData, (∀ (s : Shared) (u : Value), BindsTo s fd ⟨[u], []⟩ [(x, u)]) ∧
        ∀ base : Heap, (K w.params).In base → base.Ns mainGlobals mg → FnOk l.prog w (K w.params) mg base (CX w) k fa fd [x] (sp w))
    (hsp : ∀ (w : World) (H : Hp) (a : Addr) (ns : List Int), ns.length ≤ n → Only H → SqL (K w.params) H a (ns.map V.int) → sp w [.ref a] H (fun v _ => v = .bl true) fun _ _ _ => False)
    (hCX : ∀ (w : World) (H : Hp) (s : Shared) (e : Value) (s' : Shared), CX w [] H s (fun _ _ _ => False) e s' → False) :
    PySem.W.WalkO q loose XP YP l.row.toRowW d [] (fun f vs => PySem.call f vs) := by
  refine Att.attach_call hn hdf fun w s₀ s₁ mg mb fa o pm cd doc a vs ns G Y ho hd hcd hmg hobj hints hlen hg => ?_
  have KX := hY w _ Y
  obtain ⟨fd, hb, hF⟩ := F w mg fa _ KX G.T.g hmg
  exact law_call KX G.T.g G.T.b G.T.builtins G.T.nolimit hg hobj hints (Nat.le_trans hlen hn2) hr hF hb (fun H hO hS => hsp w H a ns hlen hO hS) fun H e s' => hCX w H s₁ e s'
end L2
namespace L2
open PySem PySem.Spec PyProof.Rows
def defArgs (s : Stmt) : Arguments := match s with
  | .FunctionDef _ a _ _ _ _ _ _ _ _ => a
  | _ => { posonlyargs := [], args := [], vararg := none, kwonlyargs := [], kw_defaults := [], kwarg := none, defaults := [] }
def defBody (s : Stmt) : List Stmt := match s with
  | .FunctionDef _ _ b _ _ _ _ _ _ _ => b
  | _ => []
def defScope (s : Stmt) : Scope := match s with
  | .FunctionDef _ _ _ _ _ _ sc _ _ _ => sc
  | _ => { kind := .function, names := [], isGenerator := false, isCoroutine := false }

abbrev CX0 : CXT := fun _ _ _ _ _ _ => False
abbrev E0 : XK := fun _ _ _ => False
structure Fun (K : PySem.W.Frag) (x qual : Str) (st : Stmt) (f : Addr) (fd : FuncData) : Prop where
  ex : ∃ (oc : Value) (od : Option Addr) (kV doc pm : Value) (an : Option Addr) (cdv ct : Value) (osl : Array (Option Value)),
    fd = PySem.W.fnOf x qual (defArgs st) (defBody st) (defScope st) .none kV doc pm an cdv ct ∧ K.lookup f = some ⟨oc, od, .func fd, osl⟩ ∧ PySem.W.codeIn K cdv qual = true
  kp : PySem.W.keepIn K (.ref f) = true
section
variable {P : Program} {w : World} {K : PySem.W.Frag} {mg : Str → Option Value} {base : Heap}
/-- THE RULE for a def: its body as a term of rules, and the reading of that term -/
theorem Fun.ok {x qual : Str} {st : Stmt} {f : Addr} {fd : FuncData} {N ps : List Str} {k : Nat} {sp : Sp} (F : Fun K x qual st f fd) (S : FnScope N ps (defScope st)) (len : ∀ vs H Q E, sp vs H Q E → vs.length = ps.length)
    (hbody : ∀ (cdv : Value) (A : Around) (outer : List Env) (s : Shared) (H : Hp) (vs : List V) (Q : VK) (E : XK), Room k (A.deeper (envOfC qual (defScope st) s.heap.objs.size f cdv)) → sp vs H Q E →
      ∃ t, PSs (cxOf CX0 P w K mg base N qual (defScope st) f cdv A outer s H E).nox (defBody st) t ∧ t { nx := fun _ H' => Q .non H', rt := Q } (start N vs) H) : FnOk P w K mg base CX0 (k + 1) f fd ps sp := by
  obtain ⟨oc, od, kV, doc, pm, an, cdv, ct, osl, rfl, lk, hcd⟩ := F.ex
  refine fn_of lk hcd S len fun A outer s H vs Q E hr hsp => ?_
  obtain ⟨t, h, q⟩ := hbody cdv A outer s H vs Q E hr hsp
  exact ⟨t, h.nox, q⟩
/-- how its arguments bind (no defaults): h is «fun _ _ _ _ _ _ us hl => match us, hl with | [_, _], _ => rfl», one _ a parameter -/
theorem Fun.binds {x qual : Str} {st : Stmt} {f : Addr} {fd : FuncData} {ps : List Str} (F : Fun K x qual st f fd)
    (h : ∀ (kV doc pm : Value) (an : Option Addr) (cdv ct : Value) (us : List Value), us.length = ps.length → bindArgs (PySem.W.fnOf x qual (defArgs st) (defBody st) (defScope st) .none kV doc pm an cdv ct) ⟨us, []⟩ = pure (ps.zip us)) : Binds K fd ps [] := by
  obtain ⟨oc, od, kV, doc, pm, an, cdv, ct, osl, rfl, lk, hcd⟩ := F.ex
  exact .all (h kV doc pm an cdv ct)
theorem fun_mk {x qual : Str} {st : Stmt} {f : Addr} {oc : Value} {od an : Option Addr} {osl : Array (Option Value)} {kV doc pm cdv ct : Value} (l : K.lookup f = some ⟨oc, od, .func (PySem.W.fnOf x qual (defArgs st) (defBody st) (defScope st) .none kV doc pm an cdv ct), osl⟩)
    (c : PySem.W.codeIn K cdv qual = true) (k : PySem.W.keepIn K (.ref f) = true) : Fun K x qual st f (PySem.W.fnOf x qual (defArgs st) (defBody st) (defScope st) .none kV doc pm an cdv ct) := ⟨⟨oc, od, kV, doc, pm, an, cdv, ct, osl, rfl, l, c⟩, k⟩
end
theorem small1000 {n : Nat} (h : n ≤ 1000) : n < sizeLine := Nat.lt_of_le_of_lt h (by decide)

section
variable {X : Cx}
theorem pv (i : Nat) {x : Str} {pos : Pos} (hN : X.N[i]? = some x := by rfl) (hv : Vis X.env.scope x := by first | exact Or.inl rfl | exact Or.inr (Or.inl rfl) | exact Or.inr (Or.inr rfl)) (hd : (x == ("__debug__" : Str)) = false := by decide)
    (hcd : (x == ("__classdict__" : Str)) = false := by decide) : PE X (.Name x pos) (tVar i) := pe_var hN hv hd hcd
end
theorem iteF {A B : Prop} (h : B) : if false = true then A else B := by
  rw [if_neg Bool.false_ne_true]
  exact h
theorem iteT {A B : Prop} (h : A) : if true = true then A else B := by
  rw [if_pos rfl]
  exact h
/-- all that was tracked is as it was -/
def Same (H H' : Hp) : Prop := ∀ b o, H b = some o → H' b = some o
theorem Same.refl (H : Hp) : Same H H := fun _ _ h => h
theorem Same.trans {H H1 H2 : Hp} (a : Same H H1) (b : Same H1 H2) : Same H H2 := fun c o h => b c o (a c o h)
theorem Same.free {H H' : Hp} (e : Same H H') {l : Addr} (h : H' l = Option.none) : H l = Option.none := by
  cases q : H l with
  | none => rfl
  | some o =>
    rw [e l o q] at h
    cases h
theorem Same.seq {K : PySem.W.Frag} {H H' : Hp} {a : Addr} {xs : List V} (e : Same H H') (h : SqL K H a xs) : SqL K H' a xs := by
  rcases h with (h | ⟨o, h⟩) | h
  · exact .inl (.inl (e _ _ h))
  · exact .inl (.inr ⟨o, e _ _ h⟩)
  · exact .inr h

end L2
section
set_option Elab.async false
set_option linter.all false
set_option maxRecDepth 100000
namespace L2
open PySem PySem.Spec PyProof.Rows
section
variable {κ : Type} [DecidableEq κ]
def valV (kvs : List (κ × V)) (k : κ) : Option V := (kvs.find? fun kv => decide (kv.1 = k)).map (·.2)
/-- in its place, or at the end -/
def putK (kvs : List (κ × V)) (k : κ) (v : V) : List (κ × V) :=
  if (kvs.any fun kv => decide (kv.1 = k)) = true then kvs.map (fun kv => if kv.1 = k then (kv.1, v) else kv) else kvs ++ [(k, v)]
def dropK (kvs : List (κ × V)) (k : κ) : List (κ × V) := kvs.filter fun kv => decide (kv.1 ≠ k)

theorem valV_pos {p : κ × V} {r : List (κ × V)} {k : κ} (e : p.1 = k) : valV (p :: r) k = some p.2 := by simp [valV, List.find?_cons, e]
theorem valV_neg {p : κ × V} {r : List (κ × V)} {k : κ} (e : ¬ p.1 = k) : valV (p :: r) k = valV r k := by simp [valV, List.find?_cons, e]
theorem valV_any (k : κ) : ∀ kvs : List (κ × V), (kvs.any fun kv => decide (kv.1 = k)) = (valV kvs k).isSome
  | [] => rfl
  | p :: r => by
    rw [List.any_cons]
    by_cases e : p.1 = k
    · simp only [valV_pos e, decide_eq_true e, Bool.true_or, Option.isSome_some]
    · rw [valV_neg e, decide_eq_false e, Bool.false_or]; exact valV_any k r
theorem length_putK (kvs : List (κ × V)) (k : κ) (v : V) : (putK kvs k v).length ≤ kvs.length + 1 := by
  unfold putK
  split
  · rw [List.length_map]; omega
  · rw [List.length_append, List.length_cons, List.length_nil]; omega
theorem putK_new {kvs : List (κ × V)} {k : κ} (v : V) (h : valV kvs k = none) : putK kvs k v = kvs ++ [(k, v)] := by
  unfold putK
  rw [valV_any, h]
  exact if_neg (by decide)

theorem RelO.isSome_eq {o : Option V} {u : Option Value} (r : RelO o u) : o.isSome = u.isSome := by
  cases o with
  | none => cases u with
    | none => rfl
    | some _ => exact (show False from r).elim
  | some _ => cases u with
    | none => exact (show False from r).elim
    | some _ => rfl
theorem RelO.getD {o : Option V} {u : Option Value} {d : V} {d' : Value} (r : RelO o u) (rd : RelV d d') : RelV (o.getD d) (u.getD d') := by
  cases o with
  | none => cases u with
    | none => exact rd
    | some _ => exact (show False from r).elim
  | some _ => cases u with
    | none => exact (show False from r).elim
    | some _ => exact r

/-- raw tables of the same keys -/
theorem KV.val {kvs : List (κ × V)} {vs : List (κ × Value)} (r : KV kvs vs) (k : κ) : RelO (valV kvs k) (valueAt vs k) := by
  unfold KV at r
  induction r with
  | nil => exact True.intro
  | @cons p q ps qs h t ih =>
    obtain ⟨h1, h2⟩ := h
    by_cases e : p.1 = k
    · have e' : q.1 = k := h1.symm.trans e
      have b : valueAt (q :: qs) k = some q.2 := by simp [valueAt, List.find?_cons, e']
      rw [valV_pos e, b]; exact h2
    · have e' : ¬ q.1 = k := fun z => e (h1.trans z)
      have b : valueAt (q :: qs) k = valueAt qs k := by simp [valueAt, List.find?_cons, e']
      rw [valV_neg e, b]; exact ih
theorem KV.any {kvs : List (κ × V)} {vs : List (κ × Value)} (r : KV kvs vs) (k : κ) : (kvs.any fun kv => decide (kv.1 = k)) = vs.any fun kv => decide (kv.1 = k) := by
  unfold KV at r
  induction r with
  | nil => rfl
  | cons h t ih => rw [List.any_cons, List.any_cons, ih, h.1]
theorem KV.repl {kvs : List (κ × V)} {vs : List (κ × Value)} (r : KV kvs vs) (k : κ) {y : V} {u : Value} (ry : RelV y u) :
    KV (kvs.map fun kv => if kv.1 = k then (kv.1, y) else kv) (vs.map fun kv => if kv.1 = k then (kv.1, u) else kv) := by
  unfold KV at r ⊢
  induction r with
  | nil => exact .nil
  | @cons p q ps qs h t ih =>
    rw [List.map_cons, List.map_cons]
    refine .cons ?_ ih
    obtain ⟨h1, h2⟩ := h
    by_cases e : p.1 = k
    · rw [if_pos e, if_pos (h1.symm.trans e)]; exact ⟨h1, ry⟩
    · rw [if_neg e, if_neg (fun z => e (h1.trans z))]; exact ⟨h1, h2⟩
theorem KV.put {kvs : List (κ × V)} {vs : List (κ × Value)} (r : KV kvs vs) (k : κ) {y : V} {u : Value} (ry : RelV y u) : KV (putK kvs k y) (stored vs k u) := by
  unfold putK stored
  rw [r.any k]
  by_cases e : (vs.any fun kv => decide (kv.1 = k)) = true
  · rw [if_pos e, if_pos e]; exact r.repl k ry
  · rw [if_neg e, if_neg e]; exact Paired.snoc r ⟨rfl, ry⟩
theorem KV.drop {kvs : List (κ × V)} {vs : List (κ × Value)} (r : KV kvs vs) (k : κ) : KV (dropK kvs k) (without vs k) := by
  unfold KV at r ⊢
  unfold dropK without
  induction r with
  | nil => exact .nil
  | @cons p q ps qs h t ih =>
    obtain ⟨h1, h2⟩ := h
    rw [List.filter_cons, List.filter_cons]
    by_cases e : p.1 = k
    · have a : ¬ decide (p.1 ≠ k) = true := by simp [e]
      have b : ¬ decide (q.1 ≠ k) = true := by simp [h1.symm.trans e]
      rw [if_neg a, if_neg b]; exact ih
    · have e' : ¬ q.1 = k := fun z => e (h1.trans z)
      have a : decide (p.1 ≠ k) = true := by simp [e]
      have b : decide (q.1 ≠ k) = true := by simp [e']
      rw [if_pos a, if_pos b]; exact .cons ⟨h1, h2⟩ ih
theorem KV.keys {kvs : List (κ × V)} {vs : List (κ × Value)} (r : KV kvs vs) : kvs.map (·.1) = vs.map (·.1) := by
  unfold KV at r
  induction r with
  | nil => rfl
  | cons h t ih => rw [List.map_cons, List.map_cons, ih, h.1]
theorem KV.length {kvs : List (κ × V)} {vs : List (κ × Value)} (r : KV kvs vs) : kvs.length = vs.length := Paired.length r
end
theorem kV_is {P : Program} {w : World} {k : Key} {u : Value} (r : RelV (kV k) u) : (mixKind P w).is k u = true := by
  cases k with
  | inl i => obtain ⟨t, e⟩ := (show ∃ t, u = Value.int i t from r); subst e; exact mixKind_int P w i t
  | inr x => obtain ⟨t, e⟩ := (show ∃ t, u = Value.str x t from r); subst e; exact mixKind_str P w x t
theorem items_are {P : Program} {w : World} : ∀ {ks : List Key} {us : List Value}, Vals (ks.map kV) us → ItemsAre (mixKind P w) ks us
  | [], _, r => by rw [List.map_nil] at r; cases r; exact .nil
  | k :: ks, _, r => by
    rw [List.map_cons] at r
    cases r with
    | cons h t => exact .cons (kV_is h) (items_are t)

/-- raw entries of a dict with tuple keys -/
abbrev KT (H : Hp) : List (List Key × V) → List (List Key × Addr × Value) → Prop := Paired fun p q => p.1 = q.1 ∧ H q.2.1 = some (.tup (p.1.map kV)) ∧ RelV p.2 q.2.2
theorem KT.val {H : Hp} {kvs : List (List Key × V)} {xs : List (List Key × Addr × Value)} (r : KT H kvs xs) (k : List Key) : RelO (valV kvs k) ((atKey xs k).map (·.2)) := by
  induction r with
  | nil => exact True.intro
  | @cons p q ps qs h t ih =>
    obtain ⟨h1, _, h2⟩ := h
    by_cases e : p.1 = k
    · have e' : q.1 = k := h1.symm.trans e
      have b : atKey (q :: qs) k = some q.2 := by simp [atKey, List.find?_cons, e']
      rw [valV_pos e, b]; exact h2
    · have e' : ¬ q.1 = k := fun z => e (h1.trans z)
      have b : atKey (q :: qs) k = atKey qs k := by simp [atKey, List.find?_cons, e']
      rw [valV_neg e, b]; exact ih
theorem KT.repl {H : Hp} {kvs : List (List Key × V)} {xs : List (List Key × Addr × Value)} (r : KT H kvs xs) (k : List Key) {y : V} {u : Value} (ry : RelV y u) :
    KT H (kvs.map fun kv => if kv.1 = k then (kv.1, y) else kv) (xs.map (putAt k u)) := by
  induction r with
  | nil => exact .nil
  | @cons p q ps qs h t ih =>
    rw [List.map_cons, List.map_cons]
    refine .cons ?_ ih
    obtain ⟨h1, h2, h3⟩ := h
    unfold putAt
    by_cases e : p.1 = k
    · rw [if_pos e, if_pos (h1.symm.trans e)]; exact ⟨h1, h2, ry⟩
    · rw [if_neg e, if_neg (fun z => e (h1.trans z))]; exact ⟨h1, h2, h3⟩
theorem KT.put {H : Hp} {kvs : List (List Key × V)} {xs : List (List Key × Addr × Value)} (r : KT H kvs xs) (k : List Key) {b : Addr} {y : V} {u : Value} (hb : H b = some (.tup (k.map kV))) (ry : RelV y u) :
    KT H (putK kvs k y) (storedH xs k b u) := by
  have e : (kvs.any fun kv => decide (kv.1 = k)) = (atKey xs k).isSome := by
    rw [valV_any, (r.val k).isSome_eq, Option.isSome_map]
  unfold putK storedH
  rw [e]
  by_cases q : (atKey xs k).isSome = true
  · rw [if_pos q, if_pos q]; exact r.repl k ry
  · rw [if_neg q, if_neg q]; exact Paired.snoc r ⟨rfl, hb, ry⟩
theorem KT.keeps {H H' : Hp} {kvs : List (List Key × V)} {xs : List (List Key × Addr × Value)} (r : KT H kvs xs) (ht : ∀ b ys, H b = some (.tup ys) → H' b = some (.tup ys)) : KT H' kvs xs :=
  Paired.mapP r fun _ _ z => ⟨z.1, ht _ _ z.2.1, z.2.2⟩

section
variable {P : Program} {w : World} {H : Hp} {h : Heap} {a : Addr}
theorem rd_of {u : HO} (ok : HOk P w H h) (e : Rd H a u) : ObjOk P w H h a u := e.ok ok
theorem dk_rd {kvs : List (Key × V)} (ok : HOk P w H h) (e : Rd H a (.dK kvs)) : kvs.length ≤ sizeLine ∧ (a == sysModules) = false ∧ ∃ vs, KV kvs vs ∧ h.DictOf (mixKind P w) a vs :=
  show ObjOk P w H h a (.dK kvs) from rd_of ok e
theorem dk_of {kvs : List (Key × V)} (ok : HOk P w H h) (e : H a = some (.dK kvs)) : kvs.length ≤ sizeLine ∧ (a == sysModules) = false ∧ ∃ vs, KV kvs vs ∧ h.DictOf (mixKind P w) a vs := dk_rd ok (.inl e)
/-- a tracked tuple of ints and texts is a key -/
theorem key_of {ks : List Key} (ok : HOk P w H h) (e : H a = some (.tup (ks.map kV))) : (tupleKind (mixKind P w)).is h ks a := by
  obtain ⟨_, its, r, o, h1, h2, n, h3⟩ := (show ObjOk P w H h a (.tup (ks.map kV)) from ok a _ e)
  exact ⟨o, its.toArray, n, h1, h2, h3, by simpa using items_are r⟩
theorem dt_rd {kvs : List (List Key × V)} (ok : HOk P w H h) (e : Rd H a (.dT kvs)) : kvs.length ≤ sizeLine ∧ (a == sysModules) = false ∧
    ∃ xs, KT H kvs xs ∧ h.DictOfH (tupleKind (mixKind P w)) a xs := by
  obtain ⟨z, y, xs, r, o, es, ep, h1, h2, h3, h4, h5⟩ := (show ObjOk P w H h a (.dT kvs) from rd_of ok e)
  refine ⟨z, y, xs, r, o, es, ep, h1, h2, h3, h4, fun x hx => ?_, h5⟩
  have all : ∀ {l : List (List Key × V)} {m : List (List Key × Addr × Value)}, KT H l m → ∀ x ∈ m, (tupleKind (mixKind P w)).is h x.1 x.2.1 := by
    intro l m q
    induction q with
    | nil => intro x hx; exact nomatch hx
    | @cons p q ps qs hq t ih =>
      intro x hx
      rcases List.mem_cons.mp hx with e | hx
      · subst e
        exact key_of ok (by rw [← hq.1]; exact hq.2.1)
      · exact ih x hx
  exact all r x hx
end
/-- what the dict at a holds at the key y -/
def DGet (H : Hp) (a : Addr) (y : V) (r : Option V) : Prop :=
  (∃ kvs k, Rd H a (.dK kvs) ∧ y = kV k ∧ r = valV kvs k) ∨ ∃ kvs k b, Rd H a (.dT kvs) ∧ y = .ref b ∧ H b = some (.tup (k.map kV)) ∧ r = valV kvs k
/-- the heap behind a[y] = v -/
def DPut (H : Hp) (a : Addr) (y v : V) (H' : Hp) : Prop :=
  (∃ kvs k, H a = some (.dK kvs) ∧ y = kV k ∧ kvs.length < sizeLine ∧ H' = upd H a (.dK (putK kvs k v))) ∨
  ∃ kvs k b, H a = some (.dT kvs) ∧ y = .ref b ∧ H b = some (.tup (k.map kV)) ∧ kvs.length < sizeLine ∧ H' = upd H a (.dT (putK kvs k v))
theorem DGet.k {H : Hp} {a : Addr} {kvs : List (Key × V)} {k : Key} (e : H a = some (.dK kvs)) : DGet H a (kV k) (valV kvs k) := .inl ⟨kvs, k, .inl e, rfl, rfl⟩
theorem DGet.t {H : Hp} {a b : Addr} {kvs : List (List Key × V)} {k : List Key} (e : H a = some (.dT kvs)) (eb : H b = some (.tup (k.map kV))) : DGet H a (.ref b) (valV kvs k) := .inr ⟨kvs, k, b, .inl e, rfl, eb, rfl⟩
theorem DPut.k {H : Hp} {a : Addr} {kvs : List (Key × V)} {k : Key} {v : V} (e : H a = some (.dK kvs)) (hl : kvs.length < sizeLine) : DPut H a (kV k) v (upd H a (.dK (putK kvs k v))) := .inl ⟨kvs, k, e, rfl, hl, rfl⟩
theorem DPut.t {H : Hp} {a b : Addr} {kvs : List (List Key × V)} {k : List Key} {v : V} (e : H a = some (.dT kvs)) (eb : H b = some (.tup (k.map kV))) (hl : kvs.length < sizeLine) :
    DPut H a (.ref b) v (upd H a (.dT (putK kvs k v))) := .inr ⟨kvs, k, b, e, rfl, eb, hl, rfl⟩


section
variable {X : Cx} {pins : List (Addr × Obj)} {σ : St} {H : Hp} {s : Shared} {a : Addr} {y v : V} {u r : Value} {o : Option V} {A : Around} {E : Value → Shared → Prop}
theorem Inv.big (I : Inv X pins σ H s) : sysModules < s.heap.objs.size := by
  have h : mainGlobals < s.heap.objs.size := (I.mod.glob.keeps I.bk).lt
  exact Nat.lt_trans (by decide) h

/-- d[y], there -/
theorem d_getItem {Q : Value → Shared → Prop} (hu : A.units + 1 < cLine) (I : Inv X pins σ H s) (g : DGet H a y (some v)) (ry : RelV y u) (h : ∀ w' s', Inv X pins σ H s' → RelV v w' → Q w' s') :
    wpAny (model X.prog X.w) A (getItem (.ref a) u) Q E s := by
  rcases g with ⟨kvs, k, e, ey, l⟩ | ⟨kvs, k, b, e, ey, eb, l⟩
  · subst ey
    obtain ⟨z, hd, vs, rel, dd⟩ := dk_rd I.hok e
    obtain ⟨w', hw, rw'⟩ := RelO.some_of (v := v) (o := valueAt vs k) (by rw [l]; exact rel.val k)
    exact wpAny_getItem_of (kV_is ry) dd.mapOf hw (h w' _ (I.tok _) rw')
  · subst ey
    cases (show u = Value.ref b from ry)
    obtain ⟨z, hd, xs, rel, dd⟩ := dt_rd I.hok e
    obtain ⟨w', hw, rw'⟩ := RelO.some_of (v := v) (o := (atKey xs k).map (·.2)) (by rw [l]; exact rel.val k)
    obtain ⟨p, hp, hp2⟩ := Option.map_eq_some_iff.mp hw
    refine wpAny_getItem_heap (tupleKind_room_in1 hu) (key_of I.hok eb) dd hp ?_
    rw [hp2]
    exact h w' _ (I.tok _) rw'
/-- a dict's object is replaced -/
theorem d_write {h' : Heap} {t' : Nat} {ob : HO} (I : Inv X pins σ H s) (mu : Mut (H a)) (hs : Heap.SameBut a s.heap h') (he : ∃ q, h'.get? a = some q) (new : ObjOk X.prog X.w (upd H a ob) h' a ob) :
    Inv X pins σ (upd H a ob) { s with heap := h', toks := t' } :=
  I.write (x := a) (e := a) mu (.inl rfl) (fun b q hb z => (hs.2 b hb).trans z) he new
theorem dk_new {P : Program} {w : World} {H' : Hp} {h' : Heap} {kvs : List (Key × V)} {vs : List (Key × Value)} (z : kvs.length ≤ sizeLine) (hd : (a == sysModules) = false) (rel : KV kvs vs) (dd : h'.DictOf (mixKind P w) a vs) :
    ObjOk P w H' h' a (.dK kvs) := ⟨z, hd, vs, rel, dd⟩
end
section
variable {X : Cx} {pins : List (Addr × Obj)} {σ : St} {H : Hp} {s : Shared} {a : Addr} {kvs : List (Key × V)} {k : Key} {u : Value} {A : Around} {E : Value → Shared → Prop}
end
theorem dict_typeIs {X : Cx} {pins : List (Addr × Obj)} {σ : St} {H : Hp} {s : Shared} {a : Addr} {y : V} {o : Option V} (I : Inv X pins σ H s) (g : DGet H a y o) : s.TypeIs (.ref a) "dict" := by
  rcases g with ⟨kvs, k, e, _, _⟩ | ⟨kvs, k, b, e, _, _, _⟩
  · obtain ⟨_, _, vs, _, dd⟩ := dk_rd I.hok e
    exact dd.typeIs
  · obtain ⟨_, _, xs, _, dd⟩ := dt_rd I.hok e
    exact dd.typeIs
section
variable {X : Cx} {o i e value : Expr} {pos pos' tpos : Pos} {td ty tv : TE}
end
theorem dk_empty {P : Program} {w : World} {H : Hp} (h : Heap) (hb : sysModules < h.objs.size) : ObjOk P w H (h.push { cls := .type "dict", data := .dict #[] }) h.objs.size (.dK []) :=
  ⟨Nat.zero_le _, beq_eq_false_iff_ne.mpr (Ne.symm (Nat.ne_of_lt hb)), [], .nil, Heap.DictOf.new h⟩
section
variable {X : Cx} {pos : Pos}
end
/-- the pairs of a display, from the left -/
def tPairs : List (TE × TE) → St → Hp → (List (V × V) → Hp → Prop) → Prop
  | [], _, H, Q => Q [] H
  | (tk, tv) :: r, σ, H, Q => tk σ H fun x H1 => tv σ H1 fun y H2 => tPairs r σ H2 fun ps H3 => Q ((x, y) :: ps) H3
abbrev VV : List (V × V) → List (Value × Value) → Prop := Paired fun p q => RelV p.1 q.1 ∧ RelV p.2 q.2
def PPs (X : Cx) (pos : Pos) (keys : List (Option Expr)) (values : List Expr) (trs : List (TE × TE)) : Prop :=
  ∀ (pins : List (Addr × Obj)) (s : Shared) (σ : St) (H : Hp) (Q : List (V × V) → Hp → Prop), Inv X pins σ H s → tPairs trs σ H Q →
    wpAny (model X.prog X.w) X.A (evalPairs (pairTrees keys values X.env pos)) (fun vs s' => ∃ ps H', Inv X pins σ H' s' ∧ VV ps vs ∧ Q ps H') X.xe s
theorem pps_nil {X : Cx} {pos : Pos} : PPs X pos [] [] [] := fun pins s σ H Q I h => pairTrees_nil_walk ⟨[], H, I, .nil, h⟩
theorem pps_cons {X : Cx} {pos : Pos} {k v : Expr} {ks : List (Option Expr)} {vs : List Expr} {tk tv : TE} {trs : List (TE × TE)} (hk : PE X k tk) (hv : PE X v tv) (hr : PPs X pos ks vs trs) :
    PPs X pos (some k :: ks) (v :: vs) ((tk, tv) :: trs) := fun pins s σ H Q I h =>
  pairTrees_cons_walk (thn (hk pins s σ H _ I h) fun u s1 ⟨x, H1, I1, rx, q1⟩ => thn (hv pins s1 σ H1 _ I1 q1) fun w2 s2 ⟨y, H2, I2, ry, q2⟩ =>
    thn (hr pins s2 σ H2 _ I2 q2) fun ws s3 ⟨ps, H3, I3, rel, q3⟩ => ⟨(x, y) :: ps, H3, I3, .cons ⟨rx, ry⟩ rel, q3⟩)

def mergeK (kvs more : List (Key × V)) : List (Key × V) := more.foldl (fun acc kv => putK acc kv.1 kv.2) kvs
theorem KV.merge : ∀ {more : List (Key × V)} {rs : List (Key × Value)} {kvs : List (Key × V)} {vs : List (Key × Value)}, KV more rs → KV kvs vs → KV (mergeK kvs more) (merged vs rs) := by
  intro more rs kvs vs r
  unfold KV at r
  induction r generalizing kvs vs with
  | nil => intro q; exact q
  | @cons p q ps qs h t ih =>
    intro r0
    have e : KV (putK kvs p.1 p.2) (stored vs q.1 q.2) := by
      have := r0.put p.1 h.2
      rw [← h.1]; exact this
    exact ih e
theorem length_mergeK : ∀ (more kvs : List (Key × V)), (mergeK kvs more).length ≤ kvs.length + more.length
  | [], kvs => by show kvs.length ≤ kvs.length + 0; omega
  | p :: r, kvs => by
    have h1 := length_mergeK r (putK kvs p.1 p.2)
    have h2 := length_putK kvs p.1 p.2
    show (mergeK (putK kvs p.1 p.2) r).length ≤ _
    rw [List.length_cons]; omega
theorem carries_of {P : Program} {w : World} : ∀ {kvs : List (Key × V)} {ws : List (Value × Value)}, VV (kvs.map fun kv => (kV kv.1, kv.2)) ws → ∃ rs, Carries (mixKind P w) ws rs ∧ KV kvs rs
  | [], _, r => by rw [List.map_nil] at r; cases r; exact ⟨[], True.intro, .nil⟩
  | p :: kvs, _, r => by
    rw [List.map_cons] at r
    cases r with
    | @cons a b as bs h t =>
      obtain ⟨rs, c, q⟩ := carries_of (P := P) (w := w) t
      obtain ⟨b1, b2⟩ := b
      exact ⟨(p.1, b2) :: rs, ⟨kV_is h.1, rfl, c⟩, .cons ⟨rfl, h.2⟩ q⟩
/-- {k: v, ..} with keys ints and texts; the new dict stands empty while the pairs are made -/
def tDisp (trs : List (TE × TE)) : TE := fun σ H Q => ∀ p, H p = none → tPairs trs σ (upd H p (.dK [])) fun ps H2 => H2 p = some (.dK []) ∧ ∃ kvs : List (Key × V), ps = kvs.map (fun kv => (kV kv.1, kv.2)) ∧ kvs.length ≤ 15 ∧ Q (.ref p) (upd H2 p (.dK (mergeK [] kvs)))
theorem pe_disp {X : Cx} {pos : Pos} {keys : List (Option Expr)} {values : List Expr} {trs : List (TE × TE)} (h : PPs X pos keys values trs) (hall : keys.all (·.isSome) = true) (hl : keys.length = values.length) (h0 : keys ≠ [])
    (h15 : keys.length ≤ 15) : PE X (.Dict keys values pos) (tDisp trs) := by
  intro pins s σ H Q I q
  have hn := I.hok.fresh (Nat.le_refl s.heap.objs.size)
  have I1 := I.laid (a := s.heap.objs.size) (o := .dK []) (h' := s.heap.push { cls := .type "dict", data := .dict #[] }) (t' := s.toks) (fun _ _ q => Heap.get?_push_of_some _ q) (Nat.le_refl _) (dk_empty s.heap I.big)
  refine wpAny_Dict_walk (knd := mixKind X.prog X.w) hall hl h0 h15 (thn (h pins _ σ _ _ I1 (q _ hn)) fun ws s2 ⟨ps, H2, I2, rel, e, kvs, ep, lk, q2⟩ => ?_)
  subst ep
  obtain ⟨rs, c, rk⟩ := carries_of (P := X.prog) (w := X.w) rel
  obtain ⟨z, hd, vs0, r0, dd⟩ := dk_of I2.hok e
  cases r0
  refine ⟨rs, c, dd, fun h' dd' hs => ⟨.ref s.heap.objs.size, _, ?_, rfl, q2⟩⟩
  have hz : (mergeK [] kvs).length ≤ sizeLine := by
    have h1 := length_mergeK kvs []
    rw [List.length_nil] at h1
    rw [sizeLine_eq]; omega
  have he : ∃ q, h'.get? s.heap.objs.size = some q := let ⟨q, _, _, hq, _⟩ := dd'; ⟨q, hq⟩
  exact d_write I2 (by rw [e]; exact True.intro) hs he (dk_new hz hd (rk.merge .nil) dd')


section
variable {X : Cx} {pins : List (Addr × Obj)} {σ : St} {H : Hp} {s : Shared} {a : Addr} {y d : V} {u r : Value} {o : Option V} {A : Around} {E : Value → Shared → Prop}
end
section
variable {X : Cx} {o e f : Expr} {apos cpos : Pos} {td ty tx : TE}
end
section
variable {X : Cx} {pins : List (Addr × Obj)} {σ : St} {H : Hp} {s : Shared} {a : Addr} {kvs : List (Key × V)} {A : Around} {E : Value → Shared → Prop}
end
section
variable {X : Cx} {pins : List (Addr × Obj)} {σ : St} {H : Hp} {s : Shared} {a : Addr} {y : V} {u : Value} {A : Around} {E : Value → Shared → Prop}
end
end L2
namespace L2
open PySem PySem.Spec PyProof.Rows
section
variable {X : Cx}
end
section
variable {κ : Type} [DecidableEq κ]
theorem valV_in {kvs : List (κ × V)} {k : κ} {v : V} (h : valV kvs k = some v) : k ∈ kvs.map (·.1) := by
  have q : (kvs.any fun kv => decide (kv.1 = k)) = true := by
    rw [valV_any, h]
    all_goals rfl
  obtain ⟨p, hp, e⟩ := List.any_eq_true.mp q
  exact List.mem_map.mpr ⟨p, hp, of_decide_eq_true e⟩
end
end L2
end
section
set_option Elab.async false
set_option linter.all false
set_option maxRecDepth 100000
set_option autoImplicit false
namespace Ng
open PySem PySem.Spec PyProof.Rows L2
abbrev Sg := L2.St

inductive D where
  | non | bl (b : Bool) | int (i : Int) | str (x : Str) | ty (n : String) | tup (l : List D) | ref (n : Nat)
inductive O where
  | lst (l : List D) | ro (l : List D) | dct (l : List (Key × D))
abbrev Hh := List O
abbrev Ev := List (Option D)
/-- a value and the objects behind it; or an exception: its class, the frame's names where it rose; or nothing is said -/
inductive Rs (A : Type) where
  | ok (a : A) (h : Hh) | exc (c : Nat) (r : Ev) (h : Hh) | bad
def Rs.bind {A B : Type} : Rs A → (A → Hh → Rs B) → Rs B
  | .ok a h, f => f a h
  | .exc c r h, _ => .exc c r h
  | .bad, _ => .bad
theorem Rs.bind_ok {A B : Type} {r : Rs A} {f : A → Hh → Rs B} {b : B} {h' : Hh} (e : r.bind f = .ok b h') : ∃ a h, r = .ok a h ∧ f a h = .ok b h' := by
  cases r with
  | ok a h => exact ⟨a, h, rfl, e⟩
  | exc c r h => cases e
  | bad => cases e
/-- no exception may come -/
def Rs.nx {A : Type} : Rs A → Rs A
  | .ok a h => .ok a h
  | _ => .bad
theorem Rs.nx_ok {A : Type} {r : Rs A} {a : A} {h : Hh} (e : r.nx = .ok a h) : r = .ok a h := by
  cases r with
  | ok b h' => exact e
  | exc c r h' => cases e
  | bad => cases e
/-- an exception that rises in a frame with these names -/
def Rs.inn {A : Type} (r : Ev) : Rs A → Rs A
  | .exc c _ h => .exc c r h
  | o => o

mutual
inductive RD (K : PySem.W.Frag) (m : List Addr) (H : Hp) : D → V → Prop where
  | non : RD K m H .non .non
  | bl (b : Bool) : RD K m H (.bl b) (.bl b)
  | int (i : Int) : RD K m H (.int i) (.int i)
  | str (x : Str) : RD K m H (.str x) (.str x)
  | ty (n : String) : RD K m H (.ty n) (.ty n)
  | tup {a : Addr} {ds : List D} {vs : List V} (h : SqT K H a vs) (r : RDs K m H ds vs) : RD K m H (.tup ds) (.ref a)
  | ref {n : Nat} {a : Addr} (h : m[n]? = some a) : RD K m H (.ref n) (.ref a)
inductive RDs (K : PySem.W.Frag) (m : List Addr) (H : Hp) : List D → List V → Prop where
  | nil : RDs K m H [] []
  | cons {d : D} {v : V} {ds : List D} {vs : List V} (h : RD K m H d v) (r : RDs K m H ds vs) : RDs K m H (d :: ds) (v :: vs)
end
structure Gr (K : PySem.W.Frag) (m : List Addr) (H : Hp) (m' : List Addr) (H' : Hp) : Prop where
  pre : ∀ (n : Nat) (a : Addr), m[n]? = some a → m'[n]? = some a
  tup : ∀ (a : Addr) (vs : List V), SqT K H a vs → SqT K H' a vs
theorem Gr.refl {K : PySem.W.Frag} {m : List Addr} {H : Hp} : Gr K m H m H := ⟨fun _ _ e => e, fun _ _ e => e⟩
theorem Gr.trans {K : PySem.W.Frag} {m m1 m2 : List Addr} {H H1 H2 : Hp} (a : Gr K m H m1 H1) (b : Gr K m1 H1 m2 H2) : Gr K m H m2 H2 :=
  ⟨fun n x e => b.pre n x (a.pre n x e), fun n x e => b.tup n x (a.tup n x e)⟩
section
variable {K : PySem.W.Frag} {m m' : List Addr} {H H' : Hp}
mutual
theorem RD.mono (g : Gr K m H m' H') : ∀ {d : D} {v : V}, RD K m H d v → RD K m' H' d v
  | _, _, .non => .non
  | _, _, .bl b => .bl b
  | _, _, .int i => .int i
  | _, _, .str x => .str x
  | _, _, .ty n => .ty n
  | _, _, .tup h r => .tup (g.tup _ _ h) (RDs.mono g r)
  | _, _, .ref h => .ref (g.pre _ _ h)
theorem RDs.mono (g : Gr K m H m' H') : ∀ {ds : List D} {vs : List V}, RDs K m H ds vs → RDs K m' H' ds vs
  | _, _, .nil => .nil
  | _, _, .cons h r => .cons (RD.mono g h) (RDs.mono g r)
end
theorem RDs.length : ∀ {ds : List D} {vs : List V}, RDs K m H ds vs → ds.length = vs.length
  | _, _, .nil => rfl
  | _, _, .cons _ r => by simp [RDs.length r]
theorem RDs.get : ∀ {ds : List D} {vs : List V} {i : Nat} {d : D}, RDs K m H ds vs → ds[i]? = some d → ∃ v, vs[i]? = some v ∧ RD K m H d v
  | _, _, _, _, .nil, e => by simp at e
  | _, _, 0, _, .cons h _, e => by simp at e; subst e; exact ⟨_, rfl, h⟩
  | _, _, i + 1, d, .cons _ r, e => by
    obtain ⟨v, h1, h2⟩ := RDs.get (i := i) (d := d) r (by simpa using e)
    exact ⟨v, by simpa using h1, h2⟩
theorem RDs.getV : ∀ {ds : List D} {vs : List V} {i : Nat} {v : V}, RDs K m H ds vs → vs[i]? = some v → ∃ d, ds[i]? = some d ∧ RD K m H d v
  | _, _, _, _, .nil, e => by simp at e
  | _, _, 0, _, .cons h _, e => by simp at e; subst e; exact ⟨_, rfl, h⟩
  | _, _, i + 1, v, .cons _ r, e => by
    obtain ⟨d, h1, h2⟩ := RDs.getV (i := i) (v := v) r (by simpa using e)
    exact ⟨d, by simpa using h1, h2⟩
theorem RDs.append : ∀ {ds es : List D} {vs us : List V}, RDs K m H ds vs → RDs K m H es us → RDs K m H (ds ++ es) (vs ++ us)
  | _, _, _, _, .nil, s => s
  | _, _, _, _, .cons h r, s => .cons h (RDs.append r s)
theorem RDs.set {d : D} {v : V} (q : RD K m H d v) : ∀ {ds : List D} {vs : List V} (i : Nat), RDs K m H ds vs → RDs K m H (ds.set i d) (vs.set i v)
  | _, _, _, .nil => .nil
  | _, _, 0, .cons _ t => .cons q t
  | _, _, i + 1, .cons h t => .cons h (RDs.set q i t)
end
theorem RDs.ints {K : PySem.W.Frag} {m : List Addr} {H : Hp} : ∀ (ns : List Int), RDs K m H (ns.map D.int) (ns.map V.int)
  | [] => .nil
  | n :: ns => .cons (.int n) (RDs.ints ns)

/-- a list that is only read -/
def SqR (K : PySem.W.Frag) (H : Hp) (a : Addr) (xs : List V) : Prop :=
  (∃ o, H a = some (.frz o (.lst xs))) ∨
    ∃ (o : Obj) (its : Array Value) (n : Nat), K.lookup a = some o ∧ o.cls = .type "list" ∧ o.dict = none ∧ o.data = .seq its n ∧ its.size ≤ sizeLine ∧ Vals xs its.toList
theorem SqR.sq {K : PySem.W.Frag} {H : Hp} {a : Addr} {xs : List V} (h : SqR K H a xs) : SqL K H a xs := by
  rcases h with h | h
  · exact .inl (.inr h)
  · exact .inr h
/-- an object -/
def RO (K : PySem.W.Frag) (m : List Addr) (H : Hp) (a : Addr) : O → Prop
  | .lst ds => ∃ vs, H a = some (.lst vs) ∧ RDs K m H ds vs
  | .ro ds => ∃ vs, SqR K H a vs ∧ RDs K m H ds vs
  | .dct ds => ∃ us : List (Key × V), H a = some (.dK us) ∧ ds.map (·.1) = us.map (·.1) ∧ RDs K m H (ds.map (·.2)) (us.map (·.2))
def O.wr : O → Bool
  | .lst _ => true
  | .ro _ => false
  | .dct _ => true
/-- what may be written -/
def wrO : HO → Bool
  | .lst _ => true
  | .dK _ => true
  | _ => false
structure Wd (K : PySem.W.Frag) (m : List Addr) (h : Hh) (H : Hp) : Prop where
  len : m.length = h.length
  nd : ∀ (i j : Nat) (a : Addr) (o u : O), m[i]? = some a → m[j]? = some a → h[i]? = some o → h[j]? = some u → o.wr = true → u.wr = true → i = j
  ob : ∀ (n : Nat) (o : O) (a : Addr), h[n]? = some o → m[n]? = some a → RO K m H a o
theorem Wd.at {K : PySem.W.Frag} {m : List Addr} {h : Hh} {H : Hp} (w : Wd K m h H) {n : Nat} {o : O} (e : h[n]? = some o) : ∃ a, m[n]? = some a ∧ RO K m H a o := by
  have hn : n < h.length := (List.getElem?_eq_some_iff.mp e).1
  have hm : n < m.length := by rw [w.len]; exact hn
  exact ⟨m[n], List.getElem?_eq_getElem hm, w.ob n o _ e (List.getElem?_eq_getElem hm)⟩

/-- the frame's names -/
def RSt (K : PySem.W.Frag) (m : List Addr) (H : Hp) (r : Ev) (s : Sg) : Prop := r.length = s.length ∧ ∀ (i : Nat) (d : D), r[i]? = some (some d) → ∃ v, s[i]? = some (some v) ∧ RD K m H d v
theorem RSt.mono {K : PySem.W.Frag} {m m' : List Addr} {H H' : Hp} {r : Ev} {s : Sg} (g : Gr K m H m' H') (h : RSt K m H r s) : RSt K m' H' r s :=
  ⟨h.1, fun i d e => let ⟨v, h1, h2⟩ := h.2 i d e; ⟨v, h1, h2.mono g⟩⟩
theorem RSt.set {K : PySem.W.Frag} {m : List Addr} {H : Hp} {r : Ev} {s : Sg} {d : D} {v : V} (h : RSt K m H r s) (i : Nat) (q : RD K m H d v) : RSt K m H (r.set i (some d)) (s.set i (some v)) := by
  refine ⟨by simp [h.1], fun j e he => ?_⟩
  by_cases hij : i = j
  · subst hij
    have hl : i < r.length := by
      have := (List.getElem?_eq_some_iff.mp he).1
      simpa using this
    rw [List.getElem?_set_self hl] at he
    have he' : d = e := by injection he with z; injection z
    subst he'
    exact ⟨v, List.getElem?_set_self (by rw [← h.1]; exact hl), q⟩
  · rw [List.getElem?_set_ne hij] at he
    obtain ⟨u, h1, h2⟩ := h.2 j e he
    exact ⟨u, by rw [List.getElem?_set_ne hij]; exact h1, h2⟩

theorem SqT.upd_new {K : PySem.W.Frag} {H : Hp} {p : Addr} {o : HO} (hp : H p = none) {a : Addr} {vs : List V} (h : SqT K H a vs) : SqT K (upd H p o) a vs := by
  rcases h with (h | ⟨ob, h⟩) | h
  · exact .inl (.inl (by rw [upd_ne (ne_of_none h hp)]; exact h))
  · exact .inl (.inr ⟨ob, by rw [upd_ne (ne_of_none h hp)]; exact h⟩)
  · exact .inr h
theorem SqL.upd_new {K : PySem.W.Frag} {H : Hp} {p : Addr} {o : HO} (hp : H p = none) {a : Addr} {vs : List V} (h : SqL K H a vs) : SqL K (upd H p o) a vs := by
  rcases h with (h | ⟨ob, h⟩) | h
  · exact .inl (.inl (by rw [upd_ne (ne_of_none h hp)]; exact h))
  · exact .inl (.inr ⟨ob, by rw [upd_ne (ne_of_none h hp)]; exact h⟩)
  · exact .inr h
theorem SqT.upd_w {K : PySem.W.Frag} {H : Hp} {p : Addr} {u o : HO} (hp : H p = some u) (hw : wrO u = true) {a : Addr} {vs : List V} (h : SqT K H a vs) : SqT K (upd H p o) a vs := by
  rcases h with (h | ⟨ob, h⟩) | h
  · exact .inl (.inl (by rw [upd_ne (ne_of h hp (fun z => by subst z; cases hw))]; exact h))
  · exact .inl (.inr ⟨ob, by rw [upd_ne (ne_of h hp (fun z => by subst z; cases hw))]; exact h⟩)
  · exact .inr h
theorem SqR.upd_new {K : PySem.W.Frag} {H : Hp} {p : Addr} {o : HO} (hp : H p = none) {a : Addr} {vs : List V} (h : SqR K H a vs) : SqR K (upd H p o) a vs := by
  rcases h with ⟨ob, h⟩ | h
  · exact .inl ⟨ob, by rw [upd_ne (ne_of_none h hp)]; exact h⟩
  · exact .inr h
theorem SqR.upd_w {K : PySem.W.Frag} {H : Hp} {p : Addr} {u o : HO} (hp : H p = some u) (hw : wrO u = true) {a : Addr} {vs : List V} (h : SqR K H a vs) : SqR K (upd H p o) a vs := by
  rcases h with ⟨ob, h⟩ | h
  · exact .inl ⟨ob, by rw [upd_ne (ne_of h hp (fun z => by subst z; cases hw))]; exact h⟩
  · exact .inr h
section
variable {K : PySem.W.Frag} {m : List Addr} {h : Hh} {H : Hp}
/-- a tuple is laid -/
theorem Gr.tupNew {p : Addr} {o : HO} (hp : H p = none) : Gr K m H m (upd H p o) := ⟨fun _ _ e => e, fun _ _ e => SqT.upd_new hp e⟩
/-- what is written is tracked -/
theorem RO.some_of {a : Addr} {o : O} (r : RO K m H a o) (w : o.wr = true) : ∃ u, H a = some u ∧ wrO u = true := by
  cases o with
  | lst ds => obtain ⟨vs, h1, _⟩ := r; exact ⟨_, h1, rfl⟩
  | ro ds => cases w
  | dct ds => obtain ⟨vs, h1, _⟩ := r; exact ⟨_, h1, rfl⟩
theorem RO.keepNew {p a : Addr} {o : HO} {u : O} {m' : List Addr} (hp : H p = none) (g : Gr K m H m' (upd H p o)) (q : RO K m H a u) : RO K m' (upd H p o) a u := by
  cases u with
  | lst ds =>
    obtain ⟨vs, h1, h2⟩ := q
    exact ⟨vs, by rw [upd_ne (ne_of_none h1 hp)]; exact h1, h2.mono g⟩
  | ro ds =>
    obtain ⟨vs, h1, h2⟩ := q
    exact ⟨vs, SqR.upd_new hp h1, h2.mono g⟩
  | dct ds =>
    obtain ⟨vs, h1, h2, h3⟩ := q
    exact ⟨vs, by rw [upd_ne (ne_of_none h1 hp)]; exact h1, h2, h3.mono g⟩
/-- another object is written -/
theorem RO.keepSet {p a : Addr} {v o : HO} {u : O} {m' : List Addr} (hp : H p = some v) (hw : wrO v = true) (na : u.wr = true → a ≠ p) (g : Gr K m H m' (upd H p o)) (q : RO K m H a u) : RO K m' (upd H p o) a u := by
  cases u with
  | lst ds =>
    obtain ⟨vs, h1, h2⟩ := q
    exact ⟨vs, by rw [upd_ne (na rfl)]; exact h1, h2.mono g⟩
  | ro ds =>
    obtain ⟨vs, h1, h2⟩ := q
    exact ⟨vs, SqR.upd_w hp hw h1, h2.mono g⟩
  | dct ds =>
    obtain ⟨vs, h1, h2, h3⟩ := q
    exact ⟨vs, by rw [upd_ne (na rfl)]; exact h1, h2, h3.mono g⟩
theorem Wd.keepNew (w : Wd K m h H) {p : Addr} {o : HO} (hp : H p = none) : Wd K m h (upd H p o) :=
  ⟨w.len, w.nd, fun n ob a e1 e2 => (w.ob n ob a e1 e2).keepNew hp (Gr.tupNew hp)⟩
/-- an object is laid -/
theorem Wd.objNew (w : Wd K m h H) {p : Addr} {o : O} {u : HO} (hp : H p = none) (r : Gr K m H (m ++ [p]) (upd H p u) → RO K (m ++ [p]) (upd H p u) p o) : Wd K (m ++ [p]) (h ++ [o]) (upd H p u) ∧ Gr K m H (m ++ [p]) (upd H p u) := by
  have g : Gr K m H (m ++ [p]) (upd H p u) := ⟨fun n a e => by
    rw [List.getElem?_append_left (List.getElem?_eq_some_iff.mp e).1]; exact e, fun _ _ e => SqT.upd_new hp e⟩
  have cs : ∀ (i : Nat) (a : Addr) (o' : O), (m ++ [p])[i]? = some a → (h ++ [o])[i]? = some o' → (i < h.length ∧ m[i]? = some a ∧ h[i]? = some o') ∨ (i = h.length ∧ a = p ∧ o' = o) := by
    intro i a o' e1 e2
    by_cases hi : i < h.length
    · rw [List.getElem?_append_left (by rw [w.len]; exact hi)] at e1
      rw [List.getElem?_append_left hi] at e2
      exact .inl ⟨hi, e1, e2⟩
    · have hl := (List.getElem?_eq_some_iff.mp e2).1
      have e : i = h.length := by simp at hl; omega
      subst e
      rw [← w.len] at e1
      simp at e1 e2
      exact .inr ⟨rfl, e1.symm, e2.symm⟩
  have fr : ∀ (i : Nat) (o : O), m[i]? = some p → h[i]? = some o → o.wr = true → False := fun i o e1 e2 hw => by
    obtain ⟨u, hu, _⟩ := (w.ob i o p e2 e1).some_of hw
    rw [hp] at hu; cases hu
  refine ⟨⟨by simp [w.len], fun i j a o1 o2 e1 e2 e3 e4 w1 w2 => ?_, fun n o' a e1 e2 => ?_⟩, g⟩
  · rcases cs i a o1 e1 e3 with ⟨_, x1, x2⟩ | ⟨z1, z2, z3⟩
    · rcases cs j a o2 e2 e4 with ⟨_, y1, y2⟩ | ⟨y1, y2, y3⟩
      · exact w.nd i j a o1 o2 x1 y1 x2 y2 w1 w2
      · subst y2; exact (fr i o1 x1 x2 w1).elim
    · rcases cs j a o2 e2 e4 with ⟨_, y1, y2⟩ | ⟨y1, y2, y3⟩
      · subst z2; exact (fr j o2 y1 y2 w2).elim
      · rw [z1, y1]
  · rcases cs n a o' e2 e1 with ⟨_, x1, x2⟩ | ⟨z1, z2, z3⟩
    · exact (w.ob n o' a x2 x1).keepNew hp g
    · subst z2; subst z3
      exact r g
/-- an object is written -/
theorem Wd.objSet (w : Wd K m h H) {n : Nat} {a : Addr} {o o' : O} {u : HO} (e1 : h[n]? = some o) (hw : o.wr = true) (e2 : m[n]? = some a) (r : Gr K m H m (upd H a u) → RO K m (upd H a u) a o') :
    Wd K m (h.set n o') (upd H a u) ∧ Gr K m H m (upd H a u) := by
  obtain ⟨v, ha, hv⟩ := (w.ob n o a e1 e2).some_of hw
  have g : Gr K m H m (upd H a u) := ⟨fun _ _ e => e, fun _ _ e => SqT.upd_w ha hv e⟩
  have hn : n < h.length := (List.getElem?_eq_some_iff.mp e1).1
  have cs : ∀ (i : Nat) (o1 : O), (h.set n o')[i]? = some o1 → (i = n ∧ o1 = o') ∨ (i ≠ n ∧ h[i]? = some o1) := by
    intro i o1 e
    by_cases hi : n = i
    · subst hi
      rw [List.getElem?_set_self hn] at e
      exact .inl ⟨rfl, (Option.some.inj e).symm⟩
    · rw [List.getElem?_set_ne hi] at e
      exact .inr ⟨fun z => hi z.symm, e⟩
  refine ⟨⟨by simp [w.len], fun i j b o1 o2 x1 x2 x3 x4 w1 w2 => ?_, fun i o1 b x1 x2 => ?_⟩, g⟩
  · rcases cs i o1 x3 with ⟨z, _⟩ | ⟨ni, y3⟩
    · subst z
      rcases cs j o2 x4 with ⟨z, _⟩ | ⟨nj, y4⟩
      · exact z.symm
      · exact w.nd i j b o o2 x1 x2 e1 y4 hw w2
    · rcases cs j o2 x4 with ⟨z, _⟩ | ⟨nj, y4⟩
      · subst z
        exact w.nd i j b o1 o x1 x2 y3 e1 w1 hw
      · exact w.nd i j b o1 o2 x1 x2 y3 y4 w1 w2
  · rcases cs i o1 x1 with ⟨z1, z2⟩ | ⟨ni, y⟩
    · subst z1; subst z2
      rw [e2] at x2; cases x2
      exact r g
    · refine (w.ob i o1 b y x2).keepSet ha hv (fun hw1 z => ?_) g
      subst z
      exact ni (w.nd i n b _ _ x2 e2 y e1 hw1 hw)
/-- a list is laid -/
theorem Wd.lstNew (w : Wd K m h H) {p : Addr} {ds : List D} {vs : List V} (hp : H p = none) (r : RDs K m H ds vs) : Wd K (m ++ [p]) (h ++ [.lst ds]) (upd H p (.lst vs)) ∧ Gr K m H (m ++ [p]) (upd H p (.lst vs)) :=
  w.objNew hp fun g => ⟨vs, upd_same, r.mono g⟩
/-- a list is written -/
theorem Wd.lstSet (w : Wd K m h H) {n : Nat} {a : Addr} {ds es : List D} {us : List V} (e1 : h[n]? = some (.lst ds)) (e2 : m[n]? = some a) (r : RDs K m H es us) :
    (∃ vs, H a = some (.lst vs) ∧ RDs K m H ds vs) ∧ Wd K m (h.set n (.lst es)) (upd H a (.lst us)) ∧ Gr K m H m (upd H a (.lst us)) :=
  ⟨w.ob n _ a e1 e2, w.objSet e1 rfl e2 fun g => ⟨us, upd_same, r.mono g⟩⟩
/-- a list that is read -/
def lstOf : O → Option (List D)
  | .lst l => some l
  | .ro l => some l
  | .dct _ => none
def lstAt (h : Hh) (n : Nat) : Option (List D) := (h[n]?).bind lstOf
theorem Wd.lst (w : Wd K m h H) {n : Nat} {ds : List D} (e : lstAt h n = some ds) : ∃ a vs, m[n]? = some a ∧ SqL K H a vs ∧ RDs K m H ds vs := by
  unfold lstAt at e
  cases q : h[n]? with
  | none => rw [q] at e; cases e
  | some o =>
    rw [q] at e
    obtain ⟨a, e1, r⟩ := w.at q
    cases o with
    | lst l =>
      obtain rfl : l = ds := Option.some.inj e
      obtain ⟨vs, h1, h2⟩ := r
      exact ⟨a, vs, e1, .of h1, h2⟩
    | ro l =>
      obtain rfl : l = ds := Option.some.inj e
      obtain ⟨vs, h1, h2⟩ := r
      exact ⟨a, vs, e1, h1.sq, h2⟩
    | dct l => cases e
end
end Ng
end
section
set_option Elab.async false
set_option linter.all false
set_option maxRecDepth 100000
set_option maxHeartbeats 4000000
set_option autoImplicit false
namespace Ng
open PySem PySem.Spec PyProof.Rows L2
abbrev nev : Value → Shared → Prop := fun _ _ => False
theorem hokHide {P : Program} {w : World} {H : Hp} {h : Heap} {fs : List Addr} (x : HOk P w H h) (nf : ∀ b ∈ fs, H b = none) : HOk P w H (PySem.W.hideAll h fs) := fun a o e =>
  (x a o e).stay (fun b u hb q => PySem.W.hideAll_get _ q fun hm => by
    rcases hb with rfl | hb
    · rw [nf _ hm] at e; cases e
    · rw [nf _ hm] at hb; cases hb) (fun _ q => q) fun _ _ q => q
/-- an exception (at e, of the class at C) in flight over the frames l; s, Hs: what stood at the entry -/
structure Fly (P : Program) (w : World) (l : List Env) (H : Hp) (s : Heap) (Hs : Hp) (e C : Addr) (h B : Heap) : Prop where
  fl : ∃ t, Heap.FlyingW B l e (.ref C) (.ref t) h
  hok : HOk P w H B
  kb : ∀ b o, s.get? b = some o → Hs b = none → b ∉ frs l → B.get? b = some o
  kt : ∀ b o, s.get? b = some o → b ∉ frs l → ∃ o', B.get? b = some o'
def CX1 (P : Program) (w : World) : CXT := fun outer Hs s E e s' => ∃ H' B ea C, e = .ref ea ∧ s'.os = s.os ∧ AllBare s'.gens ∧ Un (frs outer) [] Hs H' s.heap s'.heap ∧ Fly P w outer H' s.heap Hs ea C s'.heap B ∧ E e (some C) H'
theorem pass1 {X : Cx} : Passes (CX1 X.prog X.w) X E0 := fun _ _ _ _ _ _ _ ⟨_, _, _, _, _, _, _, _, _, z⟩ => z.elim
theorem un_fly {fs : List Addr} {H H' : Hp} {h h1 h2 B : Heap} (u : Un fs [] H H' h h1) (kb : ∀ b o, h.get? b = some o → H b = none → b ∉ fs → B.get? b = some o) (kt : ∀ b o, h.get? b = some o → b ∉ fs → ∃ o', B.get? b = some o')
    (st : B.StaysIn h2) (up : h1.UpToSlots h2) (fr : ∀ b ∈ fs, ∀ o, h1.get? b = some o → ∀ vs, o.data ≠ .fields vs) : Un fs [] H H' h h2 where
  keep := fun b o e n hb _ => st b o (kb b o e n hb)
  slot := fun b o e n hb hx => by
    obtain ⟨sl, e1⟩ := u.slot b o e n hb hx
    obtain ⟨sl', e2⟩ := up b _ e1 (fr b hb _ e1)
    exact ⟨sl', e2⟩
  free := u.free
  there := fun b o e hx => by
    by_cases hb : b ∈ fs
    · obtain ⟨o1, e1⟩ := u.there b o e hx
      obtain ⟨sl, e2⟩ := up b o1 e1 (fr b hb _ e1)
      exact ⟨_, e2⟩
    · obtain ⟨o', e'⟩ := kt b o e hb
      exact ⟨o', st b o' e'⟩
  tups := u.tups
  frzs := u.frzs
  tbls := u.tbls
/-- in flight, come to the frame of X: the frame's own things stand in B, too -/
structure FlyX (X : Cx) (pins : List (Addr × Obj)) (H : Hp) (e C : Addr) (s : Shared) (B : Heap) : Prop where
  fly : Fly X.prog X.w X.stack H X.s₀.heap X.H₀ e C s.heap B
  pc1 : ∀ p ∈ X.pn ++ pins, B.get? p.1 = some p.2
  pc2 : ∀ x c, X.env.cells.lookup x = some c → ∃ o, s.heap.get? c = some o ∧ B.get? c = some o
section
variable {X : Cx} {pins : List (Addr × Obj)} {σ : Sg} {H : Hp} {s : Shared}
/-- the frames' own objects are no records -/
theorem frames_data (I : Inv X pins σ H s) : ∀ b ∈ frs X.stack, ∀ o, s.heap.get? b = some o → ∀ vs, o.data ≠ .fields vs := fun b hb o e vs q => by
  obtain ⟨_, o', e', nf⟩ := I.stack.mem hb
  rw [e] at e'; cases e'
  exact nf vs q
theorem old_not (I : Inv X pins σ H s) {b : Addr} {o : Obj} (e : X.s₀.heap.get? b = some o) (hb : b ∉ frs X.outer) : b ∉ frs X.stack := fun hm => by
  rcases List.mem_cons.mp (I.stkSub b hm) with z | z
  · exact absurd (Heap.lt_size e) (by rw [z]; exact Nat.not_lt.mpr I.ok.above)
  · exact hb z
/-- it comes to this frame from a call -/
theorem arrive {E : XK} {e : Value} {s' : Shared} (I : Inv X pins σ H s) (hx : X.ex = []) (hfn : ∀ x, X.fn x = true) (q : CX1 X.prog X.w X.stack H s E e s') :
    ∃ H' ea C, e = .ref ea ∧ Inv X pins σ H' s' ∧ (∃ B, FlyX X pins H' ea C s' B) ∧ E e (some C) H' := by
  obtain ⟨H', B, ea, C, rfl, ho, hg, un, f, z⟩ := q
  obtain ⟨t, fl⟩ := id f.fl
  refine ⟨H', ea, C, rfl, I.call' (ch := []) ho un (f.hok.kept fl.1) hg (fun b z => absurd z (by simp)), ⟨B, ⟨f.fl, f.hok, fun b o e n hb => ?_, fun b o e hb => ?_⟩, fun p hp => ?_, fun x c hc => ?_⟩, z⟩
  · have hb' : b ∉ X.fs := fun hm => hb (by
      rcases I.ok.stk with z | z
      · rw [z]; exact hm
      · rw [z.1]
        obtain ⟨env, he, hf⟩ := List.mem_filterMap.mp (show b ∈ X.outer.filterMap (·.frame) from hm)
        exact List.mem_filterMap.mpr ⟨env, List.mem_cons_of_mem _ he, hf⟩)
    have hn : b ∉ X.ex := by rw [hx]; simp
    exact f.kb b o (I.base.keep b o e n hb' hn) (I.base.free b o e n hn) hb
  · have hn : b ∉ X.ex := by rw [hx]; simp
    obtain ⟨o1, e1⟩ := I.base.there b o e hn
    exact f.kt b o1 e1 hb
  · obtain ⟨e1, n, ne, nf, _⟩ := I.pin p hp
    exact f.kb _ _ e1 n fun hm => (List.mem_cons.mp (I.stkSub _ hm)).elim ne nf
  · obtain ⟨v, o, e1, _⟩ := I.cell x c hc
    have hb : B.get? c = some o := f.kb _ _ e1 (I.freeC x c hc) fun hm => by
      rcases List.mem_cons.mp (I.stkSub _ hm) with z | z
      · exact I.cne x c hc z
      · obtain ⟨_, o', e', _⟩ := I.ok.funs.mem z
        exact absurd (Heap.lt_size e') (Nat.not_lt.mpr (I.ok.cab x c (hfn x) hc))
    exact ⟨o, fl.1 _ _ hb, hb⟩
/-- a flight's step leaves the frame as it is -/
theorem flight {e C : Addr} {B h' : Heap} (I : Inv X pins σ H s) (F : FlyX X pins H e C s B) (hx : X.ex = []) (st : B.StaysIn h') (up : s.heap.UpToSlots h') : Inv X pins σ H { s with heap := h' } := by
  have base : Un X.fs [] X.H₀ H X.s₀.heap s.heap := by have := I.base; rw [hx] at this; exact this
  have sub : ∀ b ∈ X.fs, b ∈ frs X.stack := fun b hm => by
    rcases I.ok.stk with z | z
    · rw [z]; exact hm
    · rw [z.1]
      obtain ⟨env, he, hf⟩ := List.mem_filterMap.mp (show b ∈ X.outer.filterMap (·.frame) from hm)
      exact List.mem_filterMap.mpr ⟨env, List.mem_cons_of_mem _ he, hf⟩
  have cell : ∀ x c v, X.env.cells.lookup x = some c → s.heap.IsCell c v → Heap.IsCell h' c v := fun x c v hc ⟨o, e1, d⟩ => by
    obtain ⟨o', e2, e3⟩ := F.pc2 x c hc
    rw [e1] at e2; cases e2
    exact ⟨o, st _ _ e3, d⟩
  refine ⟨I.ok, I.os, I.bare, ?_, ?_, fun x c hc => ?_, I.free, I.freeC, fun p hp => ?_, F.fly.hok.kept st, I.len⟩
  · rw [hx]
    exact un_fly base (fun b o e1 n hb => F.fly.kb b o e1 n (old_not I e1 hb)) (fun b o e1 hb => F.fly.kt b o e1 (old_not I e1 hb)) st up fun b hb o e1 => frames_data I b (sub b hb) o e1
  · obtain ⟨m, hn, hl⟩ := I.loc
    refine ⟨m, up.ns hn, fun i x v e1 e2 e3 => ?_⟩
    obtain ⟨u, ru, L⟩ := hl i x v e1 e2 e3
    refine ⟨u, ru, ?_⟩
    rcases L with L | ⟨k, c, hc, ic⟩
    · exact .inl L
    · exact .inr ⟨k, c, hc, cell x c _ hc ic⟩
  · obtain ⟨v, ic⟩ := I.cell x c hc
    exact ⟨v, cell x c v hc ic⟩
  · exact ⟨st _ _ (F.pc1 p hp), (I.pin p hp).2⟩
theorem FlyX.step {e C : Addr} {B h' : Heap} (F : FlyX X pins H e C s B) (fl : ∃ t, Heap.FlyingW B X.stack e (.ref C) (.ref t) h') : FlyX X pins H e C { s with heap := h' } B :=
  ⟨⟨fl, F.fly.hok, F.fly.kb, F.fly.kt⟩, F.pc1, fun x c hc => by
    obtain ⟨o, _, e2⟩ := F.pc2 x c hc
    obtain ⟨t, fl⟩ := fl
    exact ⟨o, fl.1 _ _ e2, e2⟩⟩
end
theorem objOk_some {P : Program} {w : World} {H : Hp} {h : Heap} {a : Addr} : ∀ {o : HO}, ObjOk P w H h a o → ∃ u, h.get? a = some u := by
  intro o x
  cases o with
  | lst xs => obtain ⟨_, _, _, _, e⟩ := x; exact ⟨_, e⟩
  | tup xs => obtain ⟨_, _, _, o, e, _⟩ := x; exact ⟨_, e⟩
  | dK kvs => obtain ⟨_, _, _, _, o, _, _, e, _⟩ := x; exact ⟨_, e⟩
  | dT kvs => obtain ⟨_, _, _, _, o, _, _, e, _⟩ := x; exact ⟨_, e⟩
  | set S n => obtain ⟨o, _, _, _, e, _⟩ := x; exact ⟨_, e⟩
  | ins C dx fs => obtain ⟨_, _, _, e, _⟩ := x; exact ⟨_, e⟩
  | own y => obtain ⟨_, e⟩ := x; exact ⟨_, e⟩
  | xd fs => obtain ⟨_, ⟨_, _, _, e, _⟩, _⟩ := x; exact ⟨_, e⟩
  | rng lo hi => obtain ⟨_, _, _, e⟩ := x; exact ⟨_, e⟩
  | frz ob u => obtain ⟨e, _⟩ := x; exact ⟨_, e⟩
  | tbl ps => exact ⟨_, x⟩
  | met f y => exact ⟨_, x⟩
  | ext φ => obtain ⟨_, ⟨_, e⟩, _⟩ := x; exact ⟨_, e⟩
/-- what the body's own wish of exceptions is -/
structure XX (X : Cx) (ca : Nat → Addr) (W : Nat → Sg → Hp → Prop) (rz : Bool) : Prop where
  ex : X.ex = []
  stk : X.stack = X.env :: X.outer ∧ X.env.frame = some X.env.locals
  fly : ∀ (pins : List (Addr × Obj)) (σ : Sg) (H : Hp) (s : Shared) (e : Addr) (c : Nat), Inv X pins σ H s → (∃ B, FlyX X pins H e (ca c) s B) → W c σ H → X.xe (.ref e) s
  made : rz = true → ∀ (pins : List (Addr × Obj)) (σ : Sg) (H : Hp) (s : Shared) (h' : Heap) (e : Addr) (c : Nat) (args : List Value), Inv X pins σ H s → Heap.MadeExcOf s.heap h' e (.ref (ca c)) args → W c σ H → X.xe (.ref e) { s with heap := h' }
section
variable {P : Program} {w : World} {K : PySem.W.Frag} {mg : Str → Option Value} {base : Heap} {N : List Str} {qual : Str} {scope : Scope} {f : Addr} {cd : Value} {A : Around} {outer : List Env} {s₀ : Shared} {H₀ : Hp} {E : XK} {ca : Nat → Addr}
theorem fnXX : XX (cxOf (CX1 P w) P w K mg base N qual scope f cd A outer s₀ H₀ E) ca (fun c _ H => ∀ v, E v (some (ca c)) H) true where
  ex := rfl
  stk := ⟨rfl, rfl⟩
  fly := fun pins σ H s e c I ⟨B, F⟩ hW => by
    have F := F.fly
    obtain ⟨t, fl⟩ := id F.fl
    refine wpAny_leaves_onW (L := s₀.heap.objs.size) I.ok.frames rfl fl fun h' fl' up => ?_
    refine ⟨H, B, e, ca c, rfl, I.os, I.bare, ?_, ⟨⟨t, fl'⟩, F.hok, fun b o e1 n hb => F.kb b o e1 n (old_not I e1 hb), fun b o e1 hb => F.kt b o e1 (old_not I e1 hb)⟩, hW _⟩
    exact un_fly (h1 := s.heap) I.base (fun b o e1 n hb => F.kb b o e1 n (old_not I e1 hb)) (fun b o e1 hb => F.kt b o e1 (old_not I e1 hb)) fl'.1 up fun b hb o e1 => frames_data I b (List.mem_cons_of_mem _ hb) o e1
  made := fun _ pins σ H s h1 e c args I hx hW => by
    have hin : ∀ env ∈ (cxOf (CX1 P w) P w K mg base N qual scope f cd A outer s₀ H₀ E).stack, ∀ b, env.frame = some b → b ∈ frs (cxOf (CX1 P w) P w K mg base N qual scope f cd A outer s₀ H₀ E).stack := fun env he b hb => List.mem_filterMap.mpr ⟨env, he, hb⟩
    refine wpAny_leaves_madeW (s := { s with heap := h1 }) (h := s.heap) (base := PySem.W.hideAll s.heap (frs (cxOf (CX1 P w) P w K mg base N qual scope f cd A outer s₀ H₀ E).stack)) (L := s₀.heap.objs.size) I.ok.frames rfl (fun b o q => PySem.W.of_hideAll _ q) (PySem.W.funFrames_hide I.stack hin) hx fun h' t fl' _ _ up => ?_
    have kb : ∀ b o, s₀.heap.get? b = some o → H₀ b = none → b ∉ frs outer → (PySem.W.hideAll s.heap (frs (cxOf (CX1 P w) P w K mg base N qual scope f cd A outer s₀ H₀ E).stack)).get? b = some o := fun b o e1 n hb =>
      PySem.W.hideAll_get _ (I.base.keep b o e1 n hb (by simp [cxOf])) (old_not I e1 hb)
    have kt : ∀ b o, s₀.heap.get? b = some o → b ∉ frs outer → ∃ o', (PySem.W.hideAll s.heap (frs (cxOf (CX1 P w) P w K mg base N qual scope f cd A outer s₀ H₀ E).stack)).get? b = some o' := fun b o e1 hb => by
      obtain ⟨o1, e2⟩ := I.base.there b o e1 (by simp [cxOf])
      exact ⟨o1, PySem.W.hideAll_get _ e2 (old_not I e1 hb)⟩
    refine ⟨H, _, e, ca c, rfl, I.os, I.bare, ?_, ⟨⟨t, fl'⟩, hokHide I.hok I.stkFree, kb, kt⟩, hW _⟩
    have u1 : Un (frs outer) [] H₀ H s₀.heap h1 := by
      refine ⟨fun b o e1 n hb hn => hx.keeps _ _ (I.base.keep b o e1 n hb hn), fun b o e1 n hb hn => ?_, I.base.free, fun b o e1 hn => ?_, I.base.tups, I.base.frzs, I.base.tbls⟩
      · obtain ⟨sl, q⟩ := I.base.slot b o e1 n hb hn
        exact ⟨sl, hx.keeps _ _ q⟩
      · obtain ⟨o1, q⟩ := I.base.there b o e1 hn
        exact ⟨o1, hx.keeps _ _ q⟩
    refine un_fly (h1 := h1) u1 kb kt fl'.1 up fun b hb o e1 => ?_
    obtain ⟨_, o', e', nf⟩ := I.stack.mem (List.mem_cons_of_mem _ hb)
    have e2 := hx.keeps _ _ e'
    rw [e1] at e2; cases e2
    exact nf
end
end Ng
end
section
set_option Elab.async false
set_option linter.all false
set_option maxRecDepth 100000
set_option maxHeartbeats 4000000
set_option autoImplicit false
namespace Ng
open PySem PySem.Spec PyProof.Rows L2
/-- an isinstance that holds -/
theorem kip {prog : Program} {w : World} {A : Around} {E : Value → Shared → Prop} {s : Shared} {Q : Value → Shared → Prop} {K : PySem.W.Frag} {x t c : Value} (LT : PySem.W.Looks (model prog w) s.heap (typeOf x) t) (KX : K.In s.heap) (e : PySem.W.kitOne K t c = some true) (hx : x ≠ .builtin "__main__.__loader__#opaque") (h : Q (.bool true) s) :
    wpAny (model prog w) A (call (.builtin "isinstance") [x, c]) Q E s := by
  refine call_isinstance_of ?_ hx
  obtain ⟨hp, g, d, tk, os⟩ := s
  unfold PySem.W.kitOne at e
  unfold Builtin.«isinstance.nested»
  refine wpAny_bind (LT.at ?_)
  by_cases q : (t == c) = true
  · rw [if_pos q]
    first
      | exact wpAny_bind (wpAny_rule (wpAny_pure h))
      | exact wpAny_bind (wpAny_rule h)
  · rw [if_neg q] at e
    rw [if_neg q]
    obtain ⟨l1, l2, l3⟩ := PySem.W.kit_cls (M := model prog w) KX e
    have l4 : PySem.W.Looks (model prog w) hp (isInstance x c) true := LT.andThen l3
    refine wpAny_bind (l1.at ?_)
    rw [if_pos (by decide)]
    k_delta "plainIsInstance"
    refine wpAny_bind (wpAny_bind (l2.at ?_))
    simp only [Bool.not_true, Bool.false_eq_true, if_false]
    refine wpAny_bind (l4.at ?_)
    first
      | exact wpAny_pure (wpAny_pure h)
      | (simp only [if_true]; first | exact wpAny_pure (wpAny_pure h) | exact wpAny_pure h | exact wpAny_bind (wpAny_pure (wpAny_pure h)))
/-- the context of an except suite -/
def hX (X : Cx) (e : Addr) (oe : Obj) : Cx := { X with A := X.A.mark (some (.ref e)), calm := false, pn := (e, oe) :: X.pn, xe := nev }
section
variable {X : Cx} {pins : List (Addr × Obj)} {σ : Sg} {H : Hp} {s : Shared} {e C : Addr} {B : Heap} {oe : Obj}
theorem hX_in (I : Inv X pins σ H s) (pin : s.heap.get? e = some oe ∧ H e = none ∧ e ≠ X.env.locals ∧ e ∉ X.fs ∧ ∀ v, oe.data ≠ .cell v) : Inv (hX X e oe) pins σ H s :=
  ⟨⟨I.ok.mod, I.ok.kind, I.ok.glob, I.ok.blt, I.ok.above, I.ok.inj, I.ok.has, I.ok.cab, (fun z => by cases z), I.ok.frames, I.ok.stk, I.ok.exf, I.ok.bs, I.ok.bsz, I.ok.noex, I.ok.exfs, I.ok.funs, I.ok.frf⟩, I.os, I.bare, I.base, I.loc, I.cell, I.free, I.freeC, fun p hp => by
    rcases List.mem_cons.mp (show p ∈ (e, oe) :: (X.pn ++ pins) from hp) with rfl | z
    · exact pin
    · exact I.pin p z, I.hok, I.len⟩
theorem hX_out (ok : X.Ok) (I : Inv (hX X e oe) pins σ H s) : Inv X pins σ H s :=
  ⟨ok, I.os, I.bare, I.base, I.loc, I.cell, I.free, I.freeC, fun p hp => I.pin p (List.mem_cons_of_mem _ hp), I.hok, I.len⟩
/-- the name of an except clause goes -/
theorem name_goes {M : Model} {A : Around} {E : Value → Shared → Prop} {j : Nat} {n : Str} {pos : Pos} {Q : Unit → Shared → Prop} (I : Inv X pins σ H s) (hN : X.N.Nodup) (hj : X.N[j]? = some n) (hl : X.env.scope.names.lookup n = some .local)
    (h : ∀ s', Inv X pins (σ.set j none) H s' → Q () s') : wpAny M A (do bindName X.env n .none; unbindBehindTheSuite X.env n pos) Q E s := by
  obtain ⟨m, hn, hlk⟩ := id I.loc
  have hcls : (X.env.scope.kind == .class || (X.env.scope.kind == .module && X.env.locals != X.env.globals)) = false := by rw [I.ok.kind]; rfl
  refine wpAny_nameGoes_keeps hl hn hcls fun h' v hn' hs => h _ ?_
  obtain ⟨oL, _, _, hoL, _⟩ := id hn
  have ne : ∀ b o, X.s₀.heap.get? b = some o → b ≠ X.env.locals := fun b o q => Nat.ne_of_lt (Nat.lt_of_lt_of_le (Heap.lt_size q) I.ok.above)
  refine ⟨I.ok, I.os, I.bare, ⟨fun b o q nn hb hx => ?_, fun b o q nn hb hx => ?_, I.base.free, fun b o q hx => ?_, I.base.tups, I.base.frzs, I.base.tbls⟩, ⟨_, hn', fun i y v' e1 e2 e3 => ?_⟩, fun y c q => ?_, I.free, I.freeC, fun p hp => ?_, fun b ob q => ?_, by simpa using I.len⟩
  · exact (hs.2 b (ne b o q)).trans (I.base.keep b o q nn hb hx)
  · obtain ⟨sl, q1⟩ := I.base.slot b o q nn hb hx
    exact ⟨sl, (hs.2 b (ne b o q)).trans q1⟩
  · obtain ⟨o', q1⟩ := I.base.there b o q hx
    exact ⟨o', (hs.2 b (ne b o q)).trans q1⟩
  · have hij : i ≠ j := fun z => by
      subst z
      by_cases hi : i < σ.length
      · rw [List.getElem?_set_self hi] at e2; cases e2
      · rw [List.getElem?_eq_none (by simpa using hi)] at e2; cases e2
    rw [List.getElem?_set_ne (Ne.symm hij)] at e2
    obtain ⟨u', r', L⟩ := hlk i y v' e1 e2 e3
    refine ⟨u', r', ?_⟩
    rcases L with ⟨k, q⟩ | ⟨k, c, hc, z⟩
    · have : y ≠ n := fun z => hij (nodup_ix hN e1 (z ▸ hj))
      exact .inl ⟨k, by simp [this, q]⟩
    · exact .inr ⟨k, c, hc, z.sameBut hs (I.cne y c hc)⟩
  · obtain ⟨w', z⟩ := I.cell y c q
    exact ⟨w', z.sameBut hs (I.cne y c q)⟩
  · obtain ⟨q, nn, ne', nf, d⟩ := I.pin p hp
    exact ⟨(hs.2 p.1 ne').trans q, nn, ne', nf, d⟩
  · refine (I.hok b ob q).stay (fun c w' hc q' => (hs.2 c ?_).trans q') (fun _ z => z) fun _ _ z => z
    rintro rfl
    rcases hc with rfl | hc
    · rw [I.free] at q; cases q
    · rw [I.free] at hc; cases hc
/-- it lands at a clause that takes it -/
theorem land {g : Str} {Gc : Addr} {gp hp : Pos} {nm : Option Str} {b0 : PySem.Stmt} {suite : List PySem.Stmt} {rest : List ExceptHandler} {Q : Flow → Shared → Prop} (I : Inv X pins σ H s) (F : FlyX X pins H e C s B) (hx : X.ex = []) (stk : X.stack = X.env :: X.outer ∧ X.env.frame = some X.env.locals)
    (hg : Gl X g) (hm : X.mg g = some (.ref Gc)) (hd : (g == ("__debug__" : Str)) = false) (hxm : PySem.W.exmOne X.K (.ref C) (.ref Gc) = some true)
    (k : ∀ s5, Inv X pins σ H s5 → FlyX X pins H e C s5 B → codeAny (model X.prog X.w) (X.A.mark (some (.ref e))) (.handlers (.ref e) [.ExceptHandler none nm (b0 :: suite) hp] X.env) (fun r s6 => match r with
      | .ok f => (match nm with
        | none => Q f s6
        | some n => wpAny (model X.prog X.w) X.A (do bindName X.env n .none; unbindBehindTheSuite X.env n hp) (fun _ s7 => Q f s7) X.xe s6)
      | .error x => cameBackBy (model X.prog X.w) X.A X.env X.xe x s6) s5) :
    wpAny (model X.prog X.w) X.A (noteFrame (.ref e) X.env) (fun _ s2 => wpAny (model X.prog X.w) X.A (setFlight (.ref e) none) (fun _ s3 => wpAny (model X.prog X.w) X.A (handleBy (.ref e) X.env (.ExceptHandler (some (.Name g gp)) nm (b0 :: suite) hp :: rest)) Q X.xe s3) X.xe s2) X.xe s := by
  obtain ⟨t, fl⟩ := id F.fly.fl
  rw [stk.1] at fl
  refine wpAny_looks_onW (by rw [I.ok.frames, stk.1]) stk.2 fl fun h1 held up1 => ?_
  refine wpAny_landsW held fun h2 fl2 up2 => ?_
  have I2 : Inv X pins σ H { s with heap := h2 } := flight I F hx fl2.1 (up1.trans up2)
  have F2 : FlyX X pins H e C { s with heap := h2 } B := F.step ⟨t, by rw [stk.1]; exact fl2⟩
  obtain ⟨oe, vs, he, hc, hdt, _⟩ := fl2.first
  have LT : PySem.W.Looks (model X.prog X.w) h2 (typeOf (.ref e)) (.ref C) := hc ▸ (PySem.W.Looks.ld he).andThen .now
  refine wpAny_handleBy_cons (codeAny_handlers_test ?_) (by intro q; cases q)
  have glob : ∀ (Q' : Value → Shared → Prop) (E' : Value → Shared → Prop), Q' (.ref Gc) { s with heap := h2 } → wpAny (model X.prog X.w) (X.A.mark (some (.ref e))) (eval (.Name g gp) X.env) Q' E' { s with heap := h2 } := fun Q' E' q =>
    Calls.Name_function_global I2.ok.kind hg (Calls.loadGlobal_global (by rw [I2.ok.glob]; exact I2.mod.glob.keeps I2.bk) hm q) hd
  refine glob _ _ ?_
  refine (PySem.W.exm_one (M := model X.prog X.w) I2.kIn LT hxm).at ?_
  exact k _ I2 F2
theorem exc_pin (I : Inv X pins σ H s) (F : FlyX X pins H e C s B) (stk : X.stack = X.env :: X.outer ∧ X.env.frame = some X.env.locals) : ∃ oe, oe.cls = .ref C ∧ s.heap.get? e = some oe ∧ H e = none ∧ e ≠ X.env.locals ∧ e ∉ X.fs ∧ ∀ v, oe.data ≠ .cell v := by
  obtain ⟨t, fl⟩ := id F.fly.fl
  obtain ⟨oe, vs, he, hc, hdt, _⟩ := fl.first
  have nst : e ∉ frs X.stack := fun hm => frames_data I e hm oe he vs hdt
  refine ⟨oe, hc, he, ?_, fun z => nst ?_, fun z => nst ?_, fun v q => by rw [hdt] at q; cases q⟩
  · cases q : H e with
    | none => rfl
    | some u =>
      obtain ⟨o, z⟩ := objOk_some (F.fly.hok e u q)
      rw [fl.2.1] at z; cases z
  · rw [stk.1, z]
    exact List.mem_filterMap.mpr ⟨X.env, List.mem_cons_self, stk.2⟩
  · rw [stk.1]
    obtain ⟨env, he', hf⟩ := List.mem_filterMap.mp (show e ∈ X.outer.filterMap (·.frame) from z)
    exact List.mem_filterMap.mpr ⟨env, List.mem_cons_of_mem _ he', hf⟩
/-- except G: suite -/
theorem suite0 {hp : Pos} {b0 : PySem.Stmt} {suite : List PySem.Stmt} {R : Result → Shared → Prop} (I : Inv X pins σ H s) (F : FlyX X pins H e C s B) (hx : X.ex = []) (stk : X.stack = X.env :: X.outer ∧ X.env.frame = some X.env.locals)
    (k : ∀ oe s6, oe.cls = .ref C → Inv (hX X e oe) pins σ H s6 → wpAny (model X.prog X.w) (X.A.mark (some (.ref e))) (execs (b0 :: suite) X.env) (fun f s7 => R (.ok f) s7) nev s6) :
    codeAny (model X.prog X.w) (X.A.mark (some (.ref e))) (.handlers (.ref e) [.ExceptHandler none none (b0 :: suite) hp] X.env) R s := by
  obtain ⟨t, fl⟩ := id F.fly.fl
  refine codeAny_handlers_suite (lands_againW fl fun h6 fl6 up6 => ?_)
  have I6 : Inv X pins σ H { s with heap := h6 } := flight I F hx fl6.1 up6
  have F6 : FlyX X pins H e C { s with heap := h6 } B := F.step ⟨t, fl6⟩
  obtain ⟨oe, hc, pin⟩ := exc_pin I6 F6 stk
  exact wpAny_mono (k oe _ hc (hX_in I6 pin)) (fun _ _ q => q) fun _ _ q => q.elim
/-- except G as n: suite -/
theorem suiteA {hp : Pos} {n : Str} {j : Nat} {b0 : PySem.Stmt} {suite : List PySem.Stmt} {R : Result → Shared → Prop} (I : Inv X pins σ H s) (F : FlyX X pins H e C s B) (hx : X.ex = []) (stk : X.stack = X.env :: X.outer ∧ X.env.frame = some X.env.locals)
    (hN : X.N.Nodup) (hj : X.N[j]? = some n) (hl : X.env.scope.names.lookup n = some .local)
    (k : ∀ oe s6, oe.cls = .ref C → Inv (hX X e oe) pins (σ.set j (some (.ref e))) H s6 → wpAny (model X.prog X.w) (X.A.mark (some (.ref e))) (execs (b0 :: suite) X.env) (fun f s7 => R (.ok f) s7) nev s6) :
    codeAny (model X.prog X.w) (X.A.mark (some (.ref e))) (.handlers (.ref e) [.ExceptHandler none (some n) (b0 :: suite) hp] X.env) R s := by
  obtain ⟨t, fl⟩ := id F.fly.fl
  refine codeAny_handlers_suite_as (lands_againW fl fun h6 fl6 up6 => ?_)
  have I6 : Inv X pins σ H { s with heap := h6 } := flight I F hx fl6.1 up6
  have F6 : FlyX X pins H e C { s with heap := h6 } B := F.step ⟨t, fl6⟩
  obtain ⟨oe, hc, pin⟩ := exc_pin I6 F6 stk
  refine store_ok (X := hX X e oe) (v := .ref e) (hX_in I6 pin) hN hj (.inl hl) rfl (fun s7 I7 => ?_) (.inr hl)
  exact wpAny_mono (k oe _ hc I7) (fun _ _ q => q) fun _ _ q => q.elim
end
end Ng
end
section
set_option Elab.async false
set_option linter.all false
set_option maxRecDepth 100000
set_option autoImplicit false
namespace Ng
open PySem PySem.Spec PyProof.Rows L2
inductive Bop where
  | add | sub | mul | fdiv | mod | pow
inductive Cop where
  | lt | le | gt | ge | eq | ne | is | isnot | inn | notin
inductive Ty where
  | int | bool | str | tuple | list
def Ty.nm : Ty → String
  | .int => "int" | .bool => "bool" | .str => "str" | .tuple => "tuple" | .list => "list"
inductive Blt where
  | len | isinst | int | list | max | min
inductive Tg where
  | nm (i : Nat) | tp (l : List Nat)
inductive Ck where
  | r1 | r2 | sq
def setAll : List Nat → List D → Ev → Ev
  | i :: is, d :: ds, r => setAll is ds (r.set i (some d))
  | _, _, r => r
def setT : Tg → D → Ev → Option Ev
  | .nm i, d, r => some (r.set i (some d))
  | .tp l, .tup ds, r => if ds.length = l.length then some (setAll l ds r) else none
  | _, _, _ => none
def rngD (i j : Int) : List D := (List.range (j - i).toNat).map fun (k : Nat) => D.int (i + k)
def okR (j : Int) : Prop := -(2 ^ 62) ≤ j ∧ j < 2 ^ 62
instance (j : Int) : Decidable (okR j) := by unfold okR; infer_instance
mutual
inductive E where
  | var (i : Nat) | int (i : Int) | bl (b : Bool) | non | str (x : Str) | gc (g : Nat) | ty (t : Ty)
  | bin (op : Bop) (a b : E) | neg (a : E) | cmp (op : Cop) (a b : E)
  | and (a b : E) | or (a b : E) | not (a : E) | ite (c a b : E)
  | ix (a b : E) | tup (l : Es) | lst (l : Es) | call (f : Nat) (l : Es) | blt (f : Blt) (l : Es) | app (o e : E)
  | comp (t : Tg) (k : Ck) (it cs : Es) (e : E) (N : List Str) (cap : List Nat)
  | mxd (mx : Bool) (l d : E) | lrg (e : E) | disp (ks : List Str) (vs : Es) | ins (o i e : E)
inductive Es where
  | nil | cons (e : E) (r : Es)
end
def truD : D → Hh → Option Bool
  | .non, _ => some false
  | .bl b, _ => some b
  | .int i, _ => some (i != 0)
  | .str y, _ => if y.length ≤ sizeLine then some ((y.length : Int) != 0) else none
  | .tup l, _ => some (!l.isEmpty)
  | .ref n, h => match lstAt h n with
    | some l => some (!l.isEmpty)
    | none => none
  | .ty _, _ => none
def binD : Bop → D → D → Hh → Rs D
  | .add, .int i, .int j, h => .ok (.int (i + j)) h
  | .add, .str x, .str y, h => if x.length + y.length ≤ sizeLine then .ok (.str (x ++ y)) h else .bad
  | .sub, .int i, .int j, h => .ok (.int (i - j)) h
  | .mul, .int i, .int j, h => if (-(2 ^ 64) < i ∧ i < 2 ^ 64) ∨ (-(2 ^ 64) < j ∧ j < 2 ^ 64) then .ok (.int (i * j)) h else .bad
  | .fdiv, .int i, .int j, h => if 0 < j ∧ j < 1073741824 then .ok (.int (i / j)) h else .bad
  | .mod, .int i, .int j, h => if 0 < j then .ok (.int (i % j)) h else .bad
  | .pow, .int i, .int j, h => if 0 ≤ j ∧ j ≤ 1000000 ∧ i.natAbs < 2 ^ 64 then .ok (.int (i ^ j.toNat)) h else .bad
  | _, _, _, _ => .bad
def eqL (f : D → D → Option Bool) : List D → List D → Option Bool
  | [], [] => some true
  | [], _ :: _ => some false
  | _ :: _, [] => some false
  | x :: xs, y :: ys => match f x y, eqL f xs ys with
    | some a, some b => some (a && b)
    | _, _ => none
def eqD : Nat → D → D → Option Bool
  | _, .non, .non => some true
  | _, .non, .int _ => some false
  | _, .int _, .non => some false
  | _, .non, .str _ => some false
  | _, .str _, .non => some false
  | _, .int a, .int b => some (a == b)
  | _, .bl a, .bl b => some (a == b)
  | _, .str a, .str b => some (a == b)
  | _, .int _, .str _ => some false
  | _, .str _, .int _ => some false
  | n + 1, .tup a, .tup b => eqL (eqD n) a b
  | _, _, _ => none
def eqH : D → D → Hh → Option Bool
  | .ref i, .ref j, h => match lstAt h i, lstAt h j with
    | some a, some b => if a.length = b.length then eqL (eqD 20) a b else some false
    | _, _ => none
  | x, y, _ => eqD 20 x y
def isNon : D → Bool
  | .non => true
  | _ => false
def flat : D → Bool
  | .non => true | .bl _ => true | .int _ => true | .str _ => true
  | _ => false
def eqF : D → D → Bool
  | .non, .non => true
  | .bl a, .bl b => a == b
  | .bl a, .int b => (if a then 1 else 0) == b
  | .int a, .bl b => a == (if b then 1 else 0)
  | .int a, .int b => a == b
  | .str a, .str b => a == b
  | _, _ => false
def inD (x : D) (l : List D) (neg : Bool) (h : Hh) : Rs D := if flat x = true ∧ l.all flat = true then .ok (.bl (if neg then !(l.any fun y => eqF y x) else l.any fun y => eqF y x)) h else .bad
def seqD : D → Hh → Option (List D)
  | .tup l, _ => some l
  | .ref n, h => lstAt h n
  | _, _ => none
def cmpD : Cop → D → D → Hh → Rs D
  | .lt, .int i, .int j, h => .ok (.bl (decide (i < j))) h
  | .le, .int i, .int j, h => .ok (.bl (decide (i ≤ j))) h
  | .gt, .int i, .int j, h => .ok (.bl (decide (j < i))) h
  | .ge, .int i, .int j, h => .ok (.bl (decide (j ≤ i))) h
  | .eq, x, y, h => match eqH x y h with
    | some b => .ok (.bl b) h
    | none => .bad
  | .ne, x, y, h => match eqH x y h with
    | some b => .ok (.bl (!b)) h
    | none => .bad
  | .is, x, .non, h => .ok (.bl (isNon x)) h
  | .isnot, x, .non, h => .ok (.bl (!isNon x)) h
  | .inn, x, y, h => match seqD y h with
    | some l => inD x l false h
    | none => .bad
  | .notin, x, y, h => match seqD y h with
    | some l => inD x l true h
    | none => .bad
  | _, _, _, _ => .bad
def dctAt (h : Hh) (x : D) : Option (List (Key × D)) := match x with
  | .ref n => match h[n]? with
    | some (.dct l) => some l
    | _ => none
  | _ => none
def keyD : D → Option Key
  | .int i => some (.inl i)
  | .str x => some (.inr x)
  | _ => none
def valD (l : List (Key × D)) (k : Key) : Option D := (l.find? fun kv => decide (kv.1 = k)).map (·.2)
def ixS (x y : D) (h : Hh) : Rs D := match seqD x h, y with
  | some l, .int i => match atI l i with
    | some d => .ok d h
    | none => .bad
  | _, _ => .bad
def ixK (l : List (Key × D)) (y : D) (h : Hh) : Rs D := match keyD y with
  | some k => match valD l k with
    | some d => .ok d h
    | none => .bad
  | none => .bad
def ixD (x y : D) (h : Hh) : Rs D := match dctAt h x with
  | some l => ixK l y h
  | none => ixS x y h
def tyD : D → Hh → Option Ty
  | .bl _, _ => some .bool
  | .int _, _ => some .int
  | .str _, _ => some .str
  | .tup _, _ => some .tuple
  | .ref n, h => match lstAt h n with
    | some _ => some .list
    | none => none
  | _, _ => none
def isTy : Ty → String → Bool
  | .bool, s => s == "bool" || s == "int"
  | t, s => t.nm == s
def tyNames : List String := ["int", "bool", "str", "tuple", "list"]
def isinD (x : D) (T : String) (h : Hh) : Option Bool := match x with
  | .non => if T ∈ tyNames then some false else none
  | x => match tyD x h with
    | some t => if T ∈ tyNames then some (isTy t T) else none
    | none => none
def tysOf : List D → Option (List String)
  | [] => some []
  | .ty T :: r => match tysOf r with
    | some l => some (T :: l)
    | none => none
  | _ => none
def isinAny (x : D) (h : Hh) : List String → Option Bool
  | [] => some false
  | T :: r => match isinD x T h, isinAny x h r with
    | some a, some b => some (a || b)
    | _, _ => none
def isinL (x : D) : D → Hh → Rs D
  | .ty T, h => match isinD x T h with
    | some b => .ok (.bl b) h
    | none => .bad
  | .tup l, h => match tysOf l with
    | some [] => .bad
    | some (T :: Ts) => match isinAny x h (T :: Ts) with
      | some b => .ok (.bl b) h
      | none => .bad
    | none => .bad
  | _, _ => .bad
def intL : D → Hh → Rs D
  | .int i, h => .ok (.int i) h
  | .bl b, h => .ok (.int (if b then 1 else 0)) h
  | _, _ => .bad
def lenL (x : D) (h : Hh) : Rs D := match seqD x h with
  | some l => .ok (.int l.length) h
  | none => .bad
def listL (x : D) (h : Hh) : Rs D := match seqD x h with
  | some l => .ok (.ref h.length) (h ++ [.lst l])
  | none => .bad
def one (k : D → Hh → Rs D) : List D → Hh → Rs D
  | [x], h => k x h
  | _, _ => .bad
def two (k : D → D → Hh → Rs D) : List D → Hh → Rs D
  | [x, y], h => k x y h
  | _, _ => .bad
def intsD : List D → Option (List Int)
  | [] => some []
  | .int i :: r => (intsD r).map (i :: ·)
  | _ :: _ => none
/-- the greatest (the least): of equal ones it is the same number -/
def maxI (a : Int) (l : List Int) : Int := l.foldl (fun m x => if x > m then x else m) a
def minI (a : Int) (l : List Int) : Int := l.foldl (fun m x => if x < m then x else m) a
def bestI (mx : Bool) : Int → List Int → Int := if mx then maxI else minI
def isLst : D → Hh → Bool
  | .ref n, h => (lstAt h n).isSome
  | _, _ => false
def bestL (mx : Bool) : List D → Hh → Rs D
  | [x], h => match isLst x h, seqD x h with
    | true, some l => match intsD l with
      | some (i :: r) => .ok (.int (bestI mx i r)) h
      | _ => .bad
    | _, _ => .bad
  | [x, y], h => match x, y with
    | .int i, .int j => .ok (.int (bestI mx i [j])) h
    | _, _ => .bad
  | _, _ => .bad
def bestD (mx : Bool) (x d : D) (h : Hh) : Rs D := match isLst x h, seqD x h with
  | true, some l => match intsD l with
    | some (i :: r) => .ok (.int (bestI mx i r)) h
    | some [] => .ok d h
    | none => .bad
  | _, _ => .bad
def lrgD (x : D) (h : Hh) : Rs D := match x with
  | .int j => if -(2 ^ 62) ≤ j ∧ j ≤ 1000 then .ok (.ref h.length) (h ++ [.lst (rngD 0 j)]) else .bad
  | _ => .bad
def dispD (ks : List Str) (ds : List D) (n : Nat) (h : Hh) : Rs D := match h[n]? with
  | some (.dct []) => if ds.length = ks.length ∧ ks.Nodup ∧ ks.length ≤ 15 then .ok (.ref n) (h.set n (.dct ((ks.map Sum.inr).zip ds))) else .bad
  | _ => .bad
def bltD : Blt → List D → Hh → Rs D
  | .len => one lenL
  | .isinst => two isinL
  | .int => one intL
  | .list => one listL
  | .max => bestL true
  | .min => bestL false
def appD (x y : D) (h : Hh) : Rs D := match x with
  | .ref n => match h[n]? with
    | some (.lst l) => if l.length < 1000000 then .ok .non (h.set n (.lst (l ++ [y]))) else .bad
    | _ => .bad
  | _ => .bad
def insD (x y z : D) (h : Hh) : Rs D := match x, y with
  | .ref n, .int i => match h[n]? with
    | some (.lst l) => if 0 ≤ i ∧ i ≤ (l.length : Int) ∧ l.length < 1000000 then .ok .non (h.set n (.lst (l.take i.toNat ++ z :: l.drop i.toNat))) else .bad
    | _ => .bad
  | _, _ => .bad
def compS (t : Tg) (cs : Ev → Hh → Rs Bool) (f : Ev → Hh → Rs D) (n0 : Nat) : List D → Ev → Hh → Rs Unit
  | [], _, h => .ok () h
  | d :: ds, r, h => match setT t d r with
    | none => .bad
    | some r1 => (cs r1 h).bind fun b h => if b = true then (f r1 h).bind fun y h => (appD (.ref n0) y h).bind fun _ h => compS t cs f n0 ds r1 h else compS t cs f n0 ds r1 h
def compI (t : Tg) (cs : Ev → Hh → Rs Bool) (f : Ev → Hh → Rs D) (n0 n : Nat) : Nat → Nat → Ev → Hh → Rs Unit
  | 0, _, _, _ => .bad
  | k + 1, i, r, h => match lstAt h n with
    | none => .bad
    | some l => match l[i]? with
      | none => .ok () h
      | some d => match setT t d r with
        | none => .bad
        | some r1 => (cs r1 h).bind fun b h => if b = true then (f r1 h).bind fun y h => (appD (.ref n0) y h).bind fun _ h => compI t cs f n0 n k (i + 1) r1 h else compI t cs f n0 n k (i + 1) r1 h
def compL (t : Tg) (cs : Ev → Hh → Rs Bool) (f : Ev → Hh → Rs D) (n0 : Nat) (k : Ck) (xs : List D) (h0 : Hh) (r : Ev) (h : Hh) : Rs Unit := match k, xs with
  | .r1, [.int j] => if okR j then compS t cs f n0 (rngD 0 j) r h else .bad
  | .r2, [.int i, .int j] => if okR i ∧ okR j then compS t cs f n0 (rngD i j) r h else .bad
  | .sq, [.tup l] => compS t cs f n0 l r h
  | .sq, [.ref n] => match lstAt h0 n with
    | some l => compI t cs f n0 n (l.length + 1) 0 r h
    | none => .bad
  | _, _ => .bad
def capV (r : Ev) (i : Nat) : Option D := match r[i]? with
  | some x => x
  | none => none
def blockE (N : List Str) (cap : List Nat) (r : Ev) : Ev := List.replicate (N.length - cap.length) none ++ cap.map (capV r)
structure Gs where
  fns : List Str
  csts : List (Str × D)
  excs : List Str := []
  sub : List (Nat × Nat) := []
abbrev Cl := Nat → List D → Hh → Rs D
mutual
def ev (G : Gs) (cl : Cl) : E → Ev → Hh → Rs D
  | .var i, r, h => match r[i]? with
    | some (some d) => .ok d h
    | _ => .bad
  | .int i, _, h => .ok (.int i) h
  | .bl b, _, h => .ok (.bl b) h
  | .non, _, h => .ok .non h
  | .str x, _, h => .ok (.str x) h
  | .gc g, _, h => match G.csts[g]? with
    | some p => .ok p.2 h
    | none => .bad
  | .ty t, _, h => .ok (.ty t.nm) h
  | .bin op a b, r, h => (ev G cl a r h).bind fun x h => (ev G cl b r h).bind fun y h => binD op x y h
  | .neg a, r, h => (ev G cl a r h).bind fun x h => match x with
    | .int i => .ok (.int (-i)) h
    | _ => .bad
  | .cmp op a b, r, h => (ev G cl a r h).bind fun x h => (ev G cl b r h).bind fun y h => cmpD op x y h
  | .and a b, r, h => (ev G cl a r h).bind fun x h => match truD x h with
    | some true => ev G cl b r h
    | some false => .ok x h
    | none => .bad
  | .or a b, r, h => (ev G cl a r h).bind fun x h => match truD x h with
    | some true => .ok x h
    | some false => ev G cl b r h
    | none => .bad
  | .not a, r, h => (ev G cl a r h).bind fun x h => match truD x h with
    | some b => .ok (.bl (!b)) h
    | none => .bad
  | .ite c a b, r, h => (ev G cl c r h).bind fun x h => match truD x h with
    | some true => ev G cl a r h
    | some false => ev G cl b r h
    | none => .bad
  | .ix a b, r, h => (ev G cl a r h).bind fun x h => (ev G cl b r h).bind fun y h => ixD x y h
  | .tup l, r, h => (evs G cl l r h).bind fun ds h => if ds.length ≤ 1000 then .ok (.tup ds) h else .bad
  | .lst l, r, h => (evs G cl l r h).bind fun ds h => if ds.length ≤ 1000 then .ok (.ref h.length) (h ++ [.lst ds]) else .bad
  | .call f l, r, h => (evs G cl l r h).bind fun ds h => (cl f ds h).nx
  | .blt f l, r, h => (evs G cl l r h).bind fun ds h => bltD f ds h
  | .app o e, r, h => (ev G cl o r h).bind fun x h => if isLst x h = true then (ev G cl e r h).bind fun y h => appD x y h else .bad
  | .ins o i e, r, h => (ev G cl o r h).bind fun x h => if isLst x h = true then (ev G cl i r h).bind fun y h => (ev G cl e r h).bind fun z h => insD x y z h else .bad
  | .mxd mx l d, r, h => (ev G cl l r h).bind fun x h => (ev G cl d r h).bind fun y h => bestD mx x y h
  | .lrg e, r, h => (ev G cl e r h).bind fun x h => lrgD x h
  | .disp ks vs, r, h => (evs G cl vs r (h ++ [.dct []])).bind fun ds h' => dispD ks ds h.length h'
  | .comp t k it cs e N cap, r, h => (evs G cl it r h).bind fun xs h => (compL t (evt G cl cs) (ev G cl e) h.length k xs h (blockE N cap r) (h ++ [.lst []])).bind fun _ h' => .ok (.ref h.length) h'
def evt (G : Gs) (cl : Cl) : Es → Ev → Hh → Rs Bool
  | .nil, _, h => .ok true h
  | .cons c l, r, h => (ev G cl c r h).bind fun x h => match truD x h with
    | some true => evt G cl l r h
    | some false => .ok false h
    | none => .bad
def evs (G : Gs) (cl : Cl) : Es → Ev → Hh → Rs (List D)
  | .nil, _, h => .ok [] h
  | .cons e l, r, h => (ev G cl e r h).bind fun d h => (evs G cl l r h).bind fun ds h => .ok (d :: ds) h
end
def visB (sc : Scope) (x : Str) : Bool := match sc.names.lookup x with
  | some .local => true
  | some .cell => true
  | some .free => true
  | _ => false
def locB (sc : Scope) (x : Str) : Bool := match sc.names.lookup x with
  | some .local => true
  | some .cell => true
  | _ => false
def glB (sc : Scope) (x : Str) : Bool := match sc.names.lookup x with
  | some .globalImplicit => true
  | _ => false
def noDbg (x : Str) : Bool := !(x == ("__debug__" : Str)) && !(x == ("__classdict__" : Str)) && !(x == ("__name__" : Str))
def Bop.op : Bop → Operator
  | .add => .Add | .sub => .Sub | .mul => .Mult | .fdiv => .FloorDiv | .mod => .Mod | .pow => .Pow
def Cop.op : Cop → CmpOp
  | .lt => .Lt | .le => .LtE | .gt => .Gt | .ge => .GtE | .eq => .Eq | .ne => .NotEq | .is => .Is | .isnot => .IsNot | .inn => .In | .notin => .NotIn
def Blt.nm : Blt → Str
  | .len => "len" | .isinst => "isinstance" | .int => "int" | .list => "list" | .max => "max" | .min => "min"
def mmNm : Bool → Str
  | true => "max"
  | false => "min"
def strKeys : List Str → List (Option PySem.Expr) → Bool
  | [], [] => true
  | x :: xs, some (.Constant (.str y) _ _) :: es => x == y && strKeys xs es
  | _, _ => false
def noSet : PySem.Expr → Bool
  | .Set _ _ _ => false
  | _ => true
def noStar : PySem.Expr → Bool
  | .Starred _ _ => false
  | _ => true
def noSlice : PySem.Expr → Bool
  | .Slice _ _ _ _ => false
  | _ => true
def relab (scope sc : Scope) : Scope := { scope with names := scope.names.map fun (n, k) => if (k == .free && sc.kind == .function && sc.names.lookup n == some .cell) then (n, .cell) else (n, k) }
def chkNs' (N : List Str) (sc : Scope) : List Nat → List PySem.Expr → Bool
  | [], [] => true
  | i :: is, .Name x _ :: es => N[i]? == some x && locB sc x && chkNs' N sc is es
  | _, _ => false
def chkT' (N : List Str) (sc : Scope) : Tg → PySem.Expr → Bool
  | .nm i, .Name x _ => N[i]? == some x && locB sc x
  | .tp l, .Tuple es _ _ => chkNs' N sc l es
  | _, _ => false
def nodupB : List Str → Bool
  | [] => true
  | x :: l => !l.contains x && nodupB l
def scOk (scope sc : Scope) : Bool := scope.kind == .function && sc.kind == .function && nodupB (scope.names.map (·.1)) && scope.names.all fun p => (!(p.2 == .local) || scope.names.lookup p.1 == some .local) && (!(p.2 == .free) || sc.names.lookup p.1 == some .cell)
def capOk (N N' : List Str) (cap : List Nat) (scope : Scope) : Bool := decide (cap.length ≤ N'.length) && (N'.drop (N'.length - cap.length)).map some == cap.map (fun (i : Nat) => N[i]?) && (N'.drop (N'.length - cap.length)).all fun x => scope.names.lookup x == some .free
def isVar : E → Bool
  | .var _ => true
  | _ => false
mutual
def chk (N : List Str) (sc : Scope) (G : Gs) : E → PySem.Expr → Bool
  | .var i, .Name x _ => N[i]? == some x && visB sc x && noDbg x
  | .int i, .Constant (.int j) _ _ => i == j
  | .bl b, .Constant (.bool c) _ _ => b == c
  | .non, .Constant .none _ _ => true
  | .str x, .Constant (.str y) _ _ => x == y
  | .gc g, .Name x _ => (G.csts[g]?).map (·.1) == some x && glB sc x && noDbg x
  | .ty t, .Name x _ => x == Str.ofString t.nm && glB sc x
  | .bin op a b, .BinOp x o y _ => op.op == o && chk N sc G a x && chk N sc G b y
  | .neg a, .UnaryOp .USub x _ => chk N sc G a x
  | .cmp op a b, .Compare x [o] [y] _ => op.op == o && noSet y && chk N sc G a x && chk N sc G b y
  | .and a b, .BoolOp .And (x :: y :: rest) pos => chk N sc G a x && (match rest with
    | [] => chk N sc G b y
    | z :: rest => chk N sc G b (.BoolOp .And (y :: z :: rest) pos))
  | .or a b, .BoolOp .Or (x :: y :: rest) pos => chk N sc G a x && (match rest with
    | [] => chk N sc G b y
    | z :: rest => chk N sc G b (.BoolOp .Or (y :: z :: rest) pos))
  | .not a, .UnaryOp .Not x _ => chk N sc G a x
  | .ite c a b, .IfExp z x y _ => chk N sc G c z && chk N sc G a x && chk N sc G b y
  | .ix a b, .Subscript x y _ => noSlice y && chk N sc G a x && chk N sc G b y
  | .tup l, .Tuple es _ _ => chks N sc G l es
  | .lst l, .List es _ => chks N sc G l es
  | .call f l, .Call (.Name x _) (e :: es) [] _ => G.fns[f]? == some x && glB sc x && noDbg x && chks N sc G l (e :: es)
  | .blt f l, .Call (.Name x _) (e :: es) [] _ => x == f.nm && glB sc x && chks N sc G l (e :: es)
  | .app o e, .Call (.Attribute x m ap) [y] [] cp => m == ("append" : Str) && (ap.endLine == cp.line) && noStar y && isVar o && chk N sc G o x && chk N sc G e y
  | .ins o i e, .Call (.Attribute x m ap) [y, z] [] cp => m == ("insert" : Str) && (ap.endLine == cp.line) && noStar y && noStar z && isVar o && chk N sc G o x && chk N sc G i y && chk N sc G e z
  | .mxd mx l d, .Call (.Name x _) [y] [⟨some kw, z, _⟩] _ => x == mmNm mx && kw == ("default" : Str) && glB sc x && noStar y && chk N sc G l y && chk N sc G d z
  | .lrg e, .Call (.Name x _) [.Call (.Name y _) [a] [] _] [] _ => x == ("list" : Str) && y == ("range" : Str) && glB sc x && glB sc y && noStar a && chk N sc G e a
  | .disp ks vs, .Dict keys vals _ => decide (0 < ks.length ∧ keys.length = vals.length) && strKeys ks keys && chks N sc G vs vals
  | .comp t k it cs e N' cap, .ListComp elt [⟨tg, iter, ifs, 0⟩] scope _ => scOk scope sc && nodupB N' && capOk N N' cap scope && noSet iter && chkT' N' scope t tg && chks N' (relab scope sc) G cs ifs && chk N' (relab scope sc) G e elt && (match k, iter with
    | .sq, x => chks N sc G it [x]
    | .r1, .Call (.Name x _) [a] [] _ => x == ("range" : Str) && glB sc x && chks N sc G it [a]
    | .r2, .Call (.Name x _) [a, b] [] _ => x == ("range" : Str) && glB sc x && chks N sc G it [a, b]
    | _, _ => false)
  | _, _ => false
def chks (N : List Str) (sc : Scope) (G : Gs) : Es → List PySem.Expr → Bool
  | .nil, [] => true
  | .cons c l, e :: es => noStar e && chk N sc G c e && chks N sc G l es
  | _, _ => false
end
end Ng
end
section
set_option Elab.async false
set_option linter.all false
set_option maxRecDepth 100000
set_option maxHeartbeats 4000000
set_option autoImplicit false
namespace Ng
open PySem PySem.Spec PyProof.Rows L2
def TDE (K : PySem.W.Frag) (f : Ev → Hh → Rs D) : TE := fun s H Q => ∃ m r h d h', Wd K m h H ∧ RSt K m H r s ∧ f r h = .ok d h' ∧
  ∀ m' v H', Gr K m H m' H' → Wd K m' h' H' → RD K m' H' d v → Q v H'
def TDT (K : PySem.W.Frag) (f : Ev → Hh → Rs D) : TT := fun s H Q => ∃ m r h d h' b, Wd K m h H ∧ RSt K m H r s ∧ f r h = .ok d h' ∧ truD d h' = some b ∧
  ∀ m' H', Gr K m H m' H' → Wd K m' h' H' → Q b H'
def TDA (K : PySem.W.Frag) (f : Ev → Hh → Rs (List D)) : TA := fun s H Q => ∃ m r h ds h', Wd K m h H ∧ RSt K m H r s ∧ f r h = .ok ds h' ∧
  ∀ m' vs H', Gr K m H m' H' → Wd K m' h' H' → RDs K m' H' ds vs → Q vs H'
def rD (K : PySem.W.Frag) (k : D → D → Hh → Rs D) : R2 := fun x y H Q => ∃ m h dx dy d h', Wd K m h H ∧ RD K m H dx x ∧ RD K m H dy y ∧ k dx dy h = .ok d h' ∧
  ∀ m' v H', Gr K m H m' H' → Wd K m' h' H' → RD K m' H' d v → Q v H'
def rDc (K : PySem.W.Frag) (k : List D → Hh → Rs D) : List V → Hp → VK → Prop := fun xs H Q => ∃ m h ds d h', Wd K m h H ∧ RDs K m H ds xs ∧ k ds h = .ok d h' ∧
  ∀ m' v H', Gr K m H m' H' → Wd K m' h' H' → RD K m' H' d v → Q v H'
theorem _root_.L2.PE.wk {X : Cx} {e : PySem.Expr} {t t' : TE} (h : PE X e t) (i : ∀ s H Q, t' s H Q → t s H Q) : PE X e t' := fun pins s σ H Q I q => h pins s σ H Q I (i _ _ _ q)
theorem _root_.L2.PT.wk {X : Cx} {e : PySem.Expr} {t t' : TT} (h : PT X e t) (i : ∀ s H Q, t' s H Q → t s H Q) : PT X e t' := fun pins s σ H Q I q => h pins s σ H Q I (i _ _ _ q)
theorem _root_.L2.PA.wk {X : Cx} {e : List PySem.Expr} {t t' : TA} (h : PA X e t) (i : ∀ s H Q, t' s H Q → t s H Q) : PA X e t' := fun pos pins s σ H Q I q => h pos pins s σ H Q I (i _ _ _ q)

theorem TDE.two {K : PySem.W.Frag} {fa fb : Ev → Hh → Rs D} {k : D → D → Hh → Rs D} {s : Sg} {H : Hp} {R : V → V → Hp → Prop} {m : List Addr} {r : Ev} {h : Hh} {d : D} {h' : Hh} (w : Wd K m h H) (st : RSt K m H r s)
    (e : ((fa r h).bind fun x h1 => (fb r h1).bind fun y h2 => k x y h2) = .ok d h')
    (c : ∀ m2 H2 h2 dx dy x y, Gr K m H m2 H2 → Wd K m2 h2 H2 → RD K m2 H2 dx x → RD K m2 H2 dy y → k dx dy h2 = .ok d h' → R x y H2) :
    TDE K fa s H fun x H1 => TDE K fb s H1 fun y H2 => R x y H2 := by
  obtain ⟨dx, h1, e1, e⟩ := Rs.bind_ok e
  obtain ⟨dy, h2, e2, e⟩ := Rs.bind_ok e
  exact ⟨m, r, h, dx, h1, w, st, e1, fun m1 x H1 g1 w1 rx => ⟨m1, r, h1, dy, h2, w1, st.mono g1, e2, fun m2 y H2 g2 w2 ry => c m2 H2 h2 dx dy x y (g1.trans g2) w2 (rx.mono g2) ry e⟩⟩
theorem TDE.op {K : PySem.W.Frag} {fa fb f : Ev → Hh → Rs D} {k : D → D → Hh → Rs D} (hf : ∀ r h, f r h = (fa r h).bind fun x h1 => (fb r h1).bind fun y h2 => k x y h2) (s : Sg) (H : Hp) (Q : VK) (q : TDE K f s H Q) : tOp (rD K k) (TDE K fa) (TDE K fb) s H Q := by
  obtain ⟨m, r, h, d, h', w, st, e, c⟩ := q
  rw [hf] at e
  exact TDE.two w st e fun m2 H2 h2 dx dy x y g w2 rx ry e => ⟨m2, h2, dx, dy, d, h', w2, rx, ry, e, fun m' v H' g' => c m' v H' (g.trans g')⟩

/-- what the walk of a body knows -/
structure XOk (X : Cx) (N : List Str) (sc : Scope) : Prop where
  n : X.N = N
  s : X.env.scope = sc
  calm : X.calm = true
  nd : X.N.Nodup
  room : ∃ k, Room k X.A
  rng : X.mg "range" = none
  po : PassesOwn (model X.prog X.w) X.A X.env X.xe
def spD (K : PySem.W.Frag) (ca : Nat → Addr) (f : List D → Hh → Rs D) (n : Nat) : Sp := fun vs H Q E => vs.length = n ∧ ∃ m h ds, Wd K m h H ∧ RDs K m H ds vs ∧ (match f ds h with
  | .ok d h' => ∀ m' v H', Gr K m H m' H' → Wd K m' h' H' → RD K m' H' d v → Q v H'
  | .exc c _ h' => ∀ m' H' v, Gr K m H m' H' → Wd K m' h' H' → E v (some (ca c)) H'
  | .bad => False)
abbrev bmV : List Value := [.type "ValueError", .type "Exception", .type "BaseException", .type "object"]
/-- an own error class under ValueError -/
structure ExcF (K : PySem.W.Frag) (C : Addr) : Prop where
  own : PySem.W.excIn K C bmV "ValueError.__new__" = true
  kp : PySem.W.keepIn K (.ref C) = true
  val : PySem.W.kitOne K (.ref C) (.type "ValueError") = some true
structure GOk (X : Cx) (G : Gs) (ca : Nat → Addr) (cl : Cl) : Prop where
  fn : ∀ (f : Nat) (x : Str), G.fns[f]? = some x → ∃ fa fd ps k, FnOk X.prog X.w X.K X.mg X.base (CX1 X.prog X.w) k fa fd ps (spD X.K ca (cl f) ps.length) ∧ Room k X.A ∧ X.mg x = some (.ref fa) ∧ PySem.W.keepIn X.K (.ref fa) = true ∧ Binds X.K fd ps [] ∧ ∀ ds h, cl f ds h ≠ .bad → ds.length = ps.length
  cst : ∀ (g : Nat) (x : Str) (d : D), G.csts[g]? = some (x, d) → ∃ v u, X.mg x = some u ∧ RelV v u ∧ ∀ m H, RD X.K m H d v
  blt : ∀ f : Blt, X.mg f.nm = none
  ty : ∀ t : Ty, X.mg (Str.ofString t.nm) = none
  exc : ∀ (c : Nat) (x : Str), G.excs[c]? = some x → X.mg x = some (.ref (ca c)) ∧ ExcF X.K (ca c)
  sub : ∀ p ∈ G.sub, PySem.W.exmOne X.K (.ref (ca p.1)) (.ref (ca p.2)) = some true ∧ PySem.W.kitOne X.K (.ref (ca p.1)) (.ref (ca p.2)) = some true ∧ ExcF X.K (ca p.1)
  verr : X.mg "ValueError" = none

section
variable {X : Cx}
theorem opBin (op : Bop) : OpR X (binaryOp op.op) (rD X.K (binD op)) := by
  intro pins s σ H x y v u Q I rx ry q
  obtain ⟨m, h, dx, dy, d, h', w, r1, r2, e, c⟩ := q
  have fin : ∀ z, RD X.K m H d z → h = h' → Q z H := fun z rz eh => by subst eh; exact c m z H Gr.refl w rz
  cases op with
  | add =>
    cases r1 <;> cases r2 <;> first | (simp [binD] at e; done) | skip
    · simp [binD] at e
      obtain ⟨rfl, rfl⟩ := e
      exact op_add pins s σ H _ _ v u Q I rx ry ⟨_, _, rfl, rfl, fin _ (.int _) rfl⟩
    · rename_i a b
      simp only [binD] at e
      split at e
      · rename_i hz
        simp at e
        obtain ⟨rfl, rfl⟩ := e
        exact op_add_str pins s σ H _ _ v u Q I rx ry ⟨_, _, rfl, rfl, hz, fin _ (.str _) rfl⟩
      · cases e
  | sub =>
    cases r1 <;> cases r2 <;> first | (simp [binD] at e; done) | skip
    simp [binD] at e
    obtain ⟨rfl, rfl⟩ := e
    exact op_sub pins s σ H _ _ v u Q I rx ry ⟨_, _, rfl, rfl, fin _ (.int _) rfl⟩
  | mul =>
    cases r1 <;> cases r2 <;> first | (simp [binD] at e; done) | skip
    simp only [binD] at e
    split at e
    · rename_i hz
      simp at e
      obtain ⟨rfl, rfl⟩ := e
      exact op_mul pins s σ H _ _ v u Q I rx ry ⟨_, _, rfl, rfl, hz, fin _ (.int _) rfl⟩
    · cases e
  | fdiv =>
    cases r1 <;> cases r2 <;> first | (simp [binD] at e; done) | skip
    simp only [binD] at e
    split at e
    · rename_i hz
      simp at e
      obtain ⟨rfl, rfl⟩ := e
      exact op_fdiv pins s σ H _ _ v u Q I rx ry ⟨_, _, rfl, rfl, hz, fin _ (.int _) rfl⟩
    · cases e
  | mod =>
    cases r1 <;> cases r2 <;> first | (simp [binD] at e; done) | skip
    simp only [binD] at e
    split at e
    · rename_i hz
      simp at e
      obtain ⟨rfl, rfl⟩ := e
      exact op_mod pins s σ H _ _ v u Q I rx ry ⟨_, _, rfl, rfl, hz, fin _ (.int _) rfl⟩
    · cases e
  | pow =>
    cases r1 <;> cases r2 <;> first | (simp [binD] at e; done) | skip
    simp only [binD] at e
    split at e
    · rename_i hz
      simp at e
      obtain ⟨rfl, rfl⟩ := e
      exact op_pow pins s σ H _ _ v u Q I rx ry ⟨_, _, rfl, rfl, hz, fin _ (.int _) rfl⟩
    · cases e

theorem eqL_all {f : D → D → Option Bool} : ∀ {a b : List D} {k : Bool}, eqL f a b = some k → ∃ e : Nat → Bool, (∀ j x y, a[j]? = some x → b[j]? = some y → f x y = some (e j)) ∧ k = ((List.range (min a.length b.length)).all e && a.length == b.length)
  | [], [], k, h => by
    simp [eqL] at h
    exact ⟨fun _ => true, fun j x y e => by simp at e, by simp [h.symm]⟩
  | [], _ :: _, k, h => by
    simp [eqL] at h
    exact ⟨fun _ => true, fun j x y e => by simp at e, by simp [h.symm]⟩
  | _ :: _, [], k, h => by
    simp [eqL] at h
    exact ⟨fun _ => true, fun j x y _ e => by simp at e, by simp [h.symm]⟩
  | x :: xs, y :: ys, k, h => by
    simp only [eqL] at h
    split at h
    · rename_i a b h1 h2
      obtain ⟨e, p, q⟩ := eqL_all h2
      refine ⟨fun j => match j with
        | 0 => a
        | j + 1 => e j, fun j x' y' e1 e2 => ?_, ?_⟩
      · cases j with
        | zero => simp at e1 e2; subst e1; subst e2; exact h1
        | succ j => exact p j x' y' (by simpa using e1) (by simpa using e2)
      · have h' : (a && b) = k := Option.some.inj h
        rw [← h', q]
        simp only [List.length_cons, Nat.succ_min_succ, List.range_succ_eq_map, List.all_cons, List.all_map]
        rw [show ((xs.length + 1 == ys.length + 1) : Bool) = (xs.length == ys.length) by simp]
        rw [Bool.and_assoc]
        rfl
    · cases h
theorem eqD_same {pins : List (Addr × Obj)} {σ : Sg} {H : Hp} {s : Shared} {m : List Addr} (I : Inv X pins σ H s) : ∀ (n : Nat) {d d' : D} {v : V} {b : Bool}, RD X.K m H d v → RD X.K m H d' v → eqD n d d' = some b → b = true := by
  intro n
  induction n with
  | zero =>
    intro d d' v b r r' e
    cases r <;> cases r' <;> simp [eqD] at e <;> exact e
  | succ n ih =>
    intro d d' v b r r' e
    cases r <;> cases r' <;> first | (simp [eqD] at e; exact e) | (simp [eqD] at e; done) | skip
    rename_i a ds vs h1 q1 ds' vs' q2 h2
    obtain rfl := I.tuple_inj h1 h2
    have go : ∀ {ds ds' : List D} {vs : List V} {b : Bool}, RDs X.K m H ds vs → RDs X.K m H ds' vs → eqL (eqD n) ds ds' = some b → b = true := by
      intro ds
      induction ds with
      | nil =>
        intro ds' vs b q1 q2 e
        cases q1; cases q2
        simp [eqL] at e; exact e
      | cons x xs ih2 =>
        intro ds' vs b q1 q2 e
        cases q1 with
        | cons p1 t1 =>
          cases q2 with
          | cons p2 t2 =>
            simp only [eqL] at e
            split at e
            · rename_i k1 k2 z1 z2
              have := ih p1 p2 z1
              have := ih2 t1 t2 z2
              subst_vars
              simpa using e.symm
            · cases e
    exact go q1 q2 (by simpa [eqD] using e)
theorem eqAt_D {pins : List (Addr × Obj)} {σ : Sg} {H : Hp} {s : Shared} {m : List Addr} (I : Inv X pins σ H s) : ∀ (n : Nat) {A : Around} {d d' : D} {v v' : V} {u u' : Value} {b : Bool}, A.units + n < cLine → RD X.K m H d v → RD X.K m H d' v' → RelV v u → RelV v' u' → eqD n d d' = some b → SeqAt.EqAt A s u u' b := by
  intro n
  induction n with
  | zero =>
    intro A d d' v v' u u' b hu r r' q q' e
    cases r <;> cases r' <;> first | (simp [eqD] at e; done) | skip
    all_goals simp [eqD] at e
    all_goals subst e
    all_goals first
      | (have h := eqAt_V (A := A) (s := s) q q' rfl rfl; simpa [eqV] using h)
  | succ n ih =>
    intro A d d' v v' u u' b hu r r' q q' e
    cases r <;> cases r' <;> first | (simp [eqD] at e; done) | skip
    all_goals first
      | (simp [eqD] at e; subst e; have h := eqAt_V (A := A) (s := s) q q' rfl rfl; simpa [eqV] using h)
      | skip
    rename_i a ds vs h1 q1 a' ds' vs' h2 q2
    cases q; cases q'
    by_cases ha : a = a'
    · subst ha
      have := eqD_same I (n + 1) (.tup h1 q1) (.tup h2 q2) e
      subst this
      exact SeqAt.EqAt.same _
    · obtain ⟨its, p1, t1, _⟩ := I.tuple h1
      obtain ⟨its', p2, t2, _⟩ := I.tuple h2
      obtain ⟨f, hf, rfl⟩ := eqL_all (show eqL (eqD n) ds ds' = some b from by simpa [eqD] using e)
      have l1 := q1.length
      have l2 := q2.length
      have l3 := p1.length
      have l4 := p2.length
      have key := SeqAt.RcAt.tuples (A := A) (e := f) t1 t2 (by omega) (fun j j1 j2 => by
        have j1' : j < its.length := by simpa using j1
        have j2' : j < its'.length := by simpa using j2
        have e1 : ds[j]? = some ds[j] := List.getElem?_eq_getElem (by omega)
        have e2 : ds'[j]? = some ds'[j] := List.getElem?_eq_getElem (by omega)
        obtain ⟨x, hx, rx⟩ := q1.get e1
        obtain ⟨y, hy, ry⟩ := q2.get e2
        obtain ⟨ux, hux, sx⟩ := p1.get hx
        obtain ⟨uy, huy, sy⟩ := p2.get hy
        have z1 : its.toArray[j] = ux := by
          have := List.getElem?_eq_some_iff.mp hux
          obtain ⟨_, z⟩ := this
          simpa using z
        have z2 : its'.toArray[j] = uy := by
          have := List.getElem?_eq_some_iff.mp huy
          obtain ⟨_, z⟩ := this
          simpa using z
        rw [z1, z2]
        exact ih (A := A.in1) (by show A.units + 1 + n < cLine; omega) rx ry sx sy (hf j _ _ e1 e2))
      refine SeqAt.EqAt.of_refs ha ?_
      have el : its.toArray.size = ds.length := by simp; omega
      have el' : its'.toArray.size = ds'.length := by simp; omega
      rw [el, el'] at key
      exact key
end
end Ng
end
section
set_option Elab.async false
set_option linter.all false
set_option maxRecDepth 100000
set_option maxHeartbeats 4000000
set_option autoImplicit false
namespace Ng
open PySem PySem.Spec PyProof.Rows L2
section
variable {X : Cx}
/-- the two sequences of an == -/
theorem eqSeq {pins : List (Addr × Obj)} {σ : Sg} {H : Hp} {s : Shared} {m : List Addr} (I : Inv X pins σ H s) {n : Nat} {A : Around} {ds ds' : List D} {vs vs' : List V} {its its' : List Value} (hu : A.units + 1 + n < cLine)
    (q1 : RDs X.K m H ds vs) (q2 : RDs X.K m H ds' vs') (p1 : Vals vs its) (p2 : Vals vs' its') {f : Nat → Bool} (hf : ∀ j x y, ds[j]? = some x → ds'[j]? = some y → eqD n x y = some (f j)) :
    ∀ j (h1 : j < its.toArray.size) (h2 : j < its'.toArray.size), SeqAt.EqAt A.in1 s its.toArray[j] its'.toArray[j] (f j) := fun j j1 j2 => by
  have l1 := q1.length
  have l2 := q2.length
  have l3 := p1.length
  have l4 := p2.length
  have j1' : j < its.length := by simpa using j1
  have j2' : j < its'.length := by simpa using j2
  have e1 : ds[j]? = some ds[j] := List.getElem?_eq_getElem (by omega)
  have e2 : ds'[j]? = some ds'[j] := List.getElem?_eq_getElem (by omega)
  obtain ⟨x, hx, rx⟩ := q1.get e1
  obtain ⟨y, hy, ry⟩ := q2.get e2
  obtain ⟨ux, hux, sx⟩ := p1.get hx
  obtain ⟨uy, huy, sy⟩ := p2.get hy
  have z1 : its.toArray[j] = ux := by
    obtain ⟨_, z⟩ := List.getElem?_eq_some_iff.mp hux
    simpa using z
  have z2 : its'.toArray[j] = uy := by
    obtain ⟨_, z⟩ := List.getElem?_eq_some_iff.mp huy
    simpa using z
  rw [z1, z2]
  exact eqAt_D I n (by show A.units + 1 + n < cLine; omega) rx ry sx sy (hf j _ _ e1 e2)
/-- == and != -/
theorem eq_both {pins : List (Addr × Obj)} {σ : Sg} {H : Hp} {s : Shared} {m : List Addr} {h : Hh} (I : Inv X pins σ H s) (hr : ∃ k, Room k X.A) {x y : V} {v u : Value} {dx dy : D} {b : Bool} (w : Wd X.K m h H) (r1 : RD X.K m H dx x) (r2 : RD X.K m H dy y)
    (rx : RelV x v) (ry : RelV y u) (e : eqH dx dy h = some b) : SeqAt.RcAt X.A s v u b ∧ SeqAt.RcNeAt X.A s v u (!b) := by
  obtain ⟨k, hr⟩ := hr
  have hu := hr.units
  cases r1 <;> cases r2 <;> first | (simp [eqH, eqD] at e; done) | skip
  case ref.ref =>
    rename_i i a ha j c hc
    cases rx; cases ry
    simp only [eqH] at e
    split at e
    · rename_i ds ds' e1 e2
      obtain ⟨a', vs, ha', hq, q1⟩ := w.lst e1
      obtain ⟨c', vs', hc', hq', q2⟩ := w.lst e2
      rw [ha] at ha'; cases ha'
      rw [hc] at hc'; cases hc'
      obtain ⟨its, p1, t1, _⟩ := I.list hq
      obtain ⟨its', p2, t2, _⟩ := I.list hq'
      have l1 := q1.length
      have l2 := q2.length
      have l3 := p1.length
      have l4 := p2.length
      split at e
      · rename_i el
        obtain ⟨f, hf, rfl⟩ := eqL_all e
        have hs : its.toArray.size = its'.toArray.size := by simp; omega
        have he := eqSeq (A := X.A) I (n := 20) (by omega) q1 q2 p1 p2 hf
        have el2 : its.toArray.size = ds.length := by simp; omega
        have k1 := SeqAt.RcAt.lists (A := X.A) (e := f) t1.isList t2.isList hs (by omega) he
        have k2 := SeqAt.RcNeAt.lists (A := X.A) (e := f) t1.isList t2.isList hs (by omega) he
        rw [el2] at k1 k2
        rw [show (min ds.length ds'.length) = ds.length by omega, show (ds.length == ds'.length) = true by simp [el], Bool.and_true]
        exact ⟨k1, k2⟩
      · rename_i el
        have eb : false = b := Option.some.inj e
        subst eb
        have hs : (its.toArray.size != its'.toArray.size) = true := by simp; omega
        exact ⟨SeqAt.RcAt.lists_lengths t1.isList t2.isList hs (by omega), SeqAt.RcNeAt.lists_lengths t1.isList t2.isList hs (by omega)⟩
    · cases e
  case tup.tup =>
    rename_i a ds vs h1 q1 a' ds' vs' h2 q2
    cases rx; cases ry
    obtain ⟨its, p1, t1, _⟩ := I.tuple h1
    obtain ⟨its', p2, t2, _⟩ := I.tuple h2
    have l1 := q1.length
    have l2 := q2.length
    have l3 := p1.length
    have l4 := p2.length
    obtain ⟨f, hf, rfl⟩ := eqL_all (show eqL (eqD 19) ds ds' = some b from by simpa [eqH, eqD] using e)
    have he := eqSeq (A := X.A) I (n := 19) (by omega) q1 q2 p1 p2 hf
    have k1 := SeqAt.RcAt.tuples (A := X.A) (e := f) t1 t2 (by omega) he
    have k2 := SeqAt.RcNeAt.tuples (A := X.A) (e := f) t1 t2 (by omega) he
    have el : its.toArray.size = ds.length := by simp; omega
    have el' : its'.toArray.size = ds'.length := by simp; omega
    rw [el, el'] at k1 k2
    exact ⟨k1, k2⟩
  all_goals simp [eqH, eqD] at e
  all_goals subst e
  case non.non => cases rx; cases ry; exact ⟨SeqAt.RcAt.none_none, SeqAt.RcNeAt.none_none⟩
  case non.int => cases rx; obtain ⟨t, rfl⟩ := ry; exact ⟨SeqAt.RcAt.none_int _ _, SeqAt.RcNeAt.none_int _ _⟩
  case non.str => cases rx; obtain ⟨t, rfl⟩ := ry; exact ⟨SeqAt.RcAt.none_str _ _, SeqAt.RcNeAt.none_str _ _⟩
  case int.non => cases ry; obtain ⟨t, rfl⟩ := rx; exact ⟨SeqAt.RcAt.int_none _ _, SeqAt.RcNeAt.int_none _ _⟩
  case str.non => cases ry; obtain ⟨t, rfl⟩ := rx; exact ⟨SeqAt.RcAt.str_none _ _, SeqAt.RcNeAt.str_none _ _⟩
  case bl.bl => cases rx; cases ry; exact ⟨SeqAt.RcAt.bool_bool _ _, SeqAt.RcNeAt.bool_bool _ _⟩
  case int.int => obtain ⟨t, rfl⟩ := rx; obtain ⟨t', rfl⟩ := ry; exact ⟨SeqAt.RcAt.int_int _ _ _ _, SeqAt.RcNeAt.int_int _ _ _ _⟩
  case int.str => obtain ⟨t, rfl⟩ := rx; obtain ⟨t', rfl⟩ := ry; exact ⟨SeqAt.RcAt.int_str _ _ _ _, SeqAt.RcNeAt.int_str _ _ _ _⟩
  case str.int => obtain ⟨t, rfl⟩ := rx; obtain ⟨t', rfl⟩ := ry; exact ⟨SeqAt.RcAt.str_int _ _ _ _, SeqAt.RcNeAt.str_int _ _ _ _⟩
  case str.str => obtain ⟨t, rfl⟩ := rx; obtain ⟨t', rfl⟩ := ry; exact ⟨SeqAt.RcAt.str_str _ _ _ _, SeqAt.RcNeAt.str_str _ _ _ _⟩

theorem RD.flat {K : PySem.W.Frag} {m : List Addr} {H : Hp} {d : D} {v : V} (r : RD K m H d v) (f : flat d = true) : flatV v = true := by
  cases r <;> first | rfl | (cases f; done)
theorem RD.eqF {K : PySem.W.Frag} {m : List Addr} {H : Hp} {d d' : D} {v v' : V} (r : RD K m H d v) (r' : RD K m H d' v') (f : Ng.flat d = true) (f' : Ng.flat d' = true) : eqV v v' = Ng.eqF d d' := by
  cases r <;> first | (cases f; done) | skip
  all_goals cases r' <;> first | (cases f'; done) | rfl
theorem RDs.flat {K : PySem.W.Frag} {m : List Addr} {H : Hp} : ∀ {ds : List D} {vs : List V}, RDs K m H ds vs → ds.all Ng.flat = true → vs.all flatV = true
  | _, _, .nil, _ => rfl
  | _, _, .cons r t, f => by
    rw [List.all_cons, Bool.and_eq_true] at f
    rw [List.all_cons, r.flat f.1, RDs.flat t f.2]
    rfl
theorem RDs.anyF {K : PySem.W.Frag} {m : List Addr} {H : Hp} {x : D} {v : V} (rx : RD K m H x v) (fx : Ng.flat x = true) : ∀ {ds : List D} {vs : List V}, RDs K m H ds vs → ds.all Ng.flat = true → inV v vs = ds.any fun y => Ng.eqF y x
  | _, _, .nil, _ => rfl
  | _, _, .cons r t, f => by
    rw [List.all_cons, Bool.and_eq_true] at f
    have ih := RDs.anyF rx fx t f.2
    unfold inV at ih ⊢
    rw [List.any_cons, List.any_cons, ih, r.eqF rx f.1 fx]
/-- a list or tuple that is read -/
theorem seq_of {m : List Addr} {h : Hh} {H : Hp} {K : PySem.W.Frag} (w : Wd K m h H) {d : D} {v : V} {l : List D} (r : RD K m H d v) (e : seqD d h = some l) : ∃ p vs, v = .ref p ∧ (SqL K H p vs ∨ SqT K H p vs) ∧ RDs K m H l vs := by
  cases r <;> first | (simp [seqD] at e; done) | skip
  · rename_i a ds vs h1 q
    have e' : ds = l := by simpa [seqD] using e
    subst e'
    exact ⟨a, vs, rfl, .inr h1, q⟩
  · rename_i n a ha
    obtain ⟨a', vs, ha', hq, q⟩ := w.lst (show lstAt h n = some l from e)
    rw [ha] at ha'; cases ha'
    exact ⟨a, vs, rfl, .inl hq, q⟩
theorem opCmp (hr : ∃ k, Room k X.A) (op : Cop) : OpR X (compareOp op.op) (rD X.K (cmpD op)) := by
  intro pins s σ H x y v u Q I rx ry q
  obtain ⟨m, h, dx, dy, d, h', w, r1, r2, e, c⟩ := q
  have fin : ∀ z, RD X.K m H d z → h = h' → Q z H := fun z rz eh => by subst eh; exact c m z H Gr.refl w rz
  cases op with
  | lt =>
    cases r1 <;> cases r2 <;> first | (simp [cmpD] at e; done) | skip
    simp [cmpD] at e
    obtain ⟨rfl, rfl⟩ := e
    exact op_lt pins s σ H _ _ v u Q I rx ry ⟨_, _, rfl, rfl, fin _ (.bl _) rfl⟩
  | le =>
    cases r1 <;> cases r2 <;> first | (simp [cmpD] at e; done) | skip
    simp [cmpD] at e
    obtain ⟨rfl, rfl⟩ := e
    exact op_le pins s σ H _ _ v u Q I rx ry ⟨_, _, rfl, rfl, fin _ (.bl _) rfl⟩
  | gt =>
    cases r1 <;> cases r2 <;> first | (simp [cmpD] at e; done) | skip
    simp [cmpD] at e
    obtain ⟨rfl, rfl⟩ := e
    exact op_gt pins s σ H _ _ v u Q I rx ry ⟨_, _, rfl, rfl, fin _ (.bl _) rfl⟩
  | ge =>
    cases r1 <;> cases r2 <;> first | (simp [cmpD] at e; done) | skip
    simp [cmpD] at e
    obtain ⟨rfl, rfl⟩ := e
    exact op_ge pins s σ H _ _ v u Q I rx ry ⟨_, _, rfl, rfl, fin _ (.bl _) rfl⟩
  | eq =>
    simp only [cmpD] at e
    split at e
    · rename_i b eb
      simp at e
      obtain ⟨rfl, rfl⟩ := e
      exact (eq_both I hr w r1 r2 rx ry eb).1 _ _ _ _ ⟨.bl b, H, I, rfl, fin _ (.bl _) rfl⟩
    · cases e
  | ne =>
    simp only [cmpD] at e
    split at e
    · rename_i b eb
      simp at e
      obtain ⟨rfl, rfl⟩ := e
      exact (eq_both I hr w r1 r2 rx ry eb).2 _ _ _ _ ⟨.bl (!b), H, I, rfl, fin _ (.bl _) rfl⟩
    · cases e
  | is =>
    cases r2 <;> first | (simp [cmpD] at e; done) | skip
    simp [cmpD] at e
    obtain ⟨rfl, rfl⟩ := e
    refine op_isN pins s σ H _ _ v u Q I rx ry ⟨rfl, fin _ ?_ rfl⟩
    cases r1 <;> exact .bl _
  | isnot =>
    cases r2 <;> first | (simp [cmpD] at e; done) | skip
    simp [cmpD] at e
    obtain ⟨rfl, rfl⟩ := e
    refine op_notN pins s σ H _ _ v u Q I rx ry ⟨rfl, fin _ ?_ rfl⟩
    cases r1 <;> exact .bl _
  | inn =>
    simp only [cmpD] at e
    split at e
    · rename_i l el
      unfold inD at e
      split at e
      · rename_i hf
        simp at e
        obtain ⟨rfl, rfl⟩ := e
        obtain ⟨p, vs, rfl, hq, q⟩ := seq_of w r2 el
        refine op_in_seq pins s σ H _ _ v u Q I rx ry ⟨p, vs, rfl, hq, r1.flat hf.1, q.flat hf.2, ?_⟩
        have z := RDs.anyF r1 hf.1 q hf.2
        show Q (.bl (if false = true then !inV x vs else inV x vs)) H
        rw [if_neg (by decide), z]
        exact fin _ (.bl _) rfl
      · cases e
    · cases e
  | notin =>
    simp only [cmpD] at e
    split at e
    · rename_i l el
      unfold inD at e
      split at e
      · rename_i hf
        simp at e
        obtain ⟨rfl, rfl⟩ := e
        obtain ⟨p, vs, rfl, hq, q⟩ := seq_of w r2 el
        refine op_notIn_seq pins s σ H _ _ v u Q I rx ry ⟨p, vs, rfl, hq, r1.flat hf.1, q.flat hf.2, ?_⟩
        have z := RDs.anyF r1 hf.1 q hf.2
        show Q (.bl (if true = true then !inV x vs else inV x vs)) H
        rw [if_pos rfl, z]
        exact fin _ (by simpa using RD.bl _) rfl
      · cases e
    · cases e
theorem atI_rel {K : PySem.W.Frag} {m : List Addr} {H : Hp} {ds : List D} {vs : List V} {i : Int} {d : D} (q : RDs K m H ds vs) (e : atI ds i = some d) : ∃ v, atI vs i = some v ∧ RD K m H d v := by
  unfold atI at e ⊢
  rw [q.length] at e
  cases z : ixN vs.length i with
  | none => rw [z] at e; cases e
  | some j =>
    rw [z] at e
    obtain ⟨v, h1, h2⟩ := q.get (show ds[j]? = some d from e)
    exact ⟨v, h1, h2⟩
theorem ixSeqS : IxR X (rD X.K ixS) := by
  intro value slice pins s σ H x y v u Q I rx ry q hs
  obtain ⟨m, h, dx, dy, d, h', w, r1, r2, e, c⟩ := q
  unfold ixS at e
  split at e
  · rename_i l i el
    split at e
    · rename_i d' ed
      simp at e
      obtain ⟨rfl, rfl⟩ := e
      obtain ⟨p, vs, rfl, hq, q⟩ := seq_of w r1 el
      obtain ⟨z, hz, rz⟩ := atI_rel q ed
      cases r2
      have qz : Q z H := c m z H Gr.refl w rz
      rcases hq with hq | hq
      · exact ix_list value slice pins s σ H _ _ v u Q I rx ry ⟨p, vs, i, z, rfl, rfl, hq, hz, qz⟩ hs
      · exact ix_tup value slice pins s σ H _ _ v u Q I rx ry ⟨p, vs, i, z, rfl, rfl, hq, hz, qz⟩ hs
    · cases e
  · cases e
theorem valD_rel {K : PySem.W.Frag} {m : List Addr} {H : Hp} {k : Key} {d : D} : ∀ {ds : List (Key × D)} {us : List (Key × V)}, ds.map (·.1) = us.map (·.1) → RDs K m H (ds.map (·.2)) (us.map (·.2)) → valD ds k = some d → ∃ v, valV us k = some v ∧ RD K m H d v
  | [], _, _, _, e => by simp [valD] at e
  | p :: ds, [], hk, _, _ => by simp at hk
  | p :: ds, q :: us, hk, r, e => by
    simp only [List.map_cons, List.cons.injEq] at hk
    cases r with
    | cons r1 r2 =>
      unfold valD at e
      unfold valV
      rw [List.find?_cons] at e ⊢
      rw [← hk.1]
      by_cases z : p.1 = k
      · rw [decide_eq_true z] at e ⊢
        simp only at e ⊢
        cases e
        exact ⟨q.2, rfl, r1⟩
      · rw [decide_eq_false z] at e ⊢
        exact valD_rel hk.2 r2 e
theorem keyD_rel {K : PySem.W.Frag} {m : List Addr} {H : Hp} {d : D} {v : V} {k : Key} (r : RD K m H d v) (e : keyD d = some k) : v = kV k := by
  cases r <;> first | (cases e; done) | (cases e; rfl)
theorem dctAt_rel {K : PySem.W.Frag} {m : List Addr} {h : Hh} {H : Hp} {x : D} {v : V} {l : List (Key × D)} (w : Wd K m h H) (r : RD K m H x v) (e : dctAt h x = some l) : ∃ n a us, x = .ref n ∧ v = .ref a ∧ h[n]? = some (.dct l) ∧ m[n]? = some a ∧ H a = some (.dK us) ∧ l.map (·.1) = us.map (·.1) ∧ RDs K m H (l.map (·.2)) (us.map (·.2)) := by
  cases r <;> first | (cases e; done) | skip
  rename_i n a ha
  simp only [dctAt] at e
  split at e
  · rename_i l' el
    cases e
    obtain ⟨us, q1, q2, q3⟩ := w.ob n _ a el ha
    exact ⟨n, a, us, rfl, rfl, el, ha, q1, q2, q3⟩
  · cases e
theorem ixSeq (hr : ∃ k, Room k X.A) : IxR X (rD X.K ixD) := by
  intro value slice pins s σ H x y v u Q I rx ry q hs
  obtain ⟨m, h, dx, dy, d, h', w, r1, r2, e, c⟩ := q
  unfold ixD at e
  split at e
  · rename_i l el
    obtain ⟨n, a, us, rfl, rfl, hn, ha, hu, hk, rv⟩ := dctAt_rel w r1 el
    unfold ixK at e
    split at e
    · rename_i k ek
      split at e
      · rename_i d' ed
        simp at e
        obtain ⟨rfl, rfl⟩ := e
        obtain ⟨z, hz, rz⟩ := valD_rel hk rv ed
        have := keyD_rel r2 ek
        subst this
        obtain ⟨kk, hr⟩ := hr
        have hun := hr.units
        cases rx
        have g : DGet H a (kV k) (some z) := by rw [← hz]; exact DGet.k hu
        exact tail_any (dict_typeIs I g) PySem.F.slot_dict_getitem.lookup (d_getItem (by omega) I g ry fun w' s3 I3 rw' => ⟨z, H, I3, rw', c m z H Gr.refl w rz⟩) hs
      · cases e
    · cases e
  · exact ixSeqS value slice pins s σ H x y v u Q I rx ry ⟨m, h, dx, dy, d, h', w, r1, r2, e, c⟩ hs
theorem isEmpty_rel {K : PySem.W.Frag} {m : List Addr} {H : Hp} {ds : List D} {vs : List V} (q : RDs K m H ds vs) : ds.isEmpty = vs.isEmpty := by
  cases q <;> rfl
theorem truRel {K : PySem.W.Frag} {m : List Addr} {h : Hh} {H : Hp} (w : Wd K m h H) {d : D} {v : V} {b : Bool} (r : RD K m H d v) (e : truD d h = some b) : TruV K v H b := by
  cases r with
  | non => exact (Option.some.inj e).symm
  | bl c => exact (Option.some.inj e).symm
  | int i => exact (Option.some.inj e).symm
  | str y =>
    simp only [truD] at e
    split at e
    · rename_i hz
      exact ⟨hz, (Option.some.inj e).symm⟩
    · cases e
  | ty n => cases e
  | tup h1 q =>
    refine .inr (.inl ⟨_, h1, ?_⟩)
    have := (Option.some.inj e).symm
    rw [this, isEmpty_rel q]
  | ref ha =>
    simp only [truD] at e
    split at e
    · rename_i l el
      obtain ⟨a', vs, ha', hq, q⟩ := w.lst el
      rw [ha] at ha'; cases ha'
      refine .inl ⟨_, hq, ?_⟩
      have := (Option.some.inj e).symm
      rw [this, isEmpty_rel q]
    · cases e
end
end Ng
end
section
set_option Elab.async false
set_option linter.all false
set_option maxRecDepth 100000
set_option maxHeartbeats 4000000
set_option autoImplicit false
namespace Ng
open PySem PySem.Spec PyProof.Rows L2
theorem maxloop {prog : Program} {w : World} {A : Around} {I : Addr} {fp wr : List Addr} {n : Nat} {P : Nat → Value → Prop} {St : Nat → Heap → Prop} (T : Walks prog w A.in1 I fp wr n P St) (bt : Nat → Nat → Bool) (cmp : CmpOf prog w A.in1 .Gt P bt) (S : Addr) (nS : S ∉ fp) (K : List (Str × Value)) {R : Result → Shared → Prop} :
    ∀ (left j : Nat) (z : Shared) (best : Value) (cc : Nat), n - (j + 1) = left → j + 1 ≤ n → St (j + 1) z.heap → P (argBest bt j) best → z.heap.get? S = some (seqObj "list" #[best, best] cc) →
      (∀ v g tk, P (argBest bt (n - 1)) v → (∀ b o, b ∉ wr → b ≠ S → z.heap.get? b = some o → g.get? b = some o) → R (.ok (.ret v)) { z with heap := g, toks := tk }) →
      codeAny (model prog w) A (.builtin "max.loop" ⟨[.ref I, .none, .ref S], K⟩) R z := by
  have nSw : S ∉ wr := fun q => nS (T.sub _ q)
  have nmL : (toString "max" ++ toString ".loop" : String) = "max.loop" := rfl
  intro left
  induction left with
  | zero =>
    intro j z best cc e1 e2 st pb hS fin
    have en : n = j + 1 := by omega
    refine codeAny_builtin F.entry_max_loop ?_
    rw [Around.under_plainId F.plain_max_loop _]
    show wpAny _ _ (seqItems? (Value.ref S) >>= _) _ _ z
    refine wpAny_bind (wpAny_seqItems hS rfl ?_)
    show wpAny _ _ (tryCatch (pyNext (Value.ref I)) _ >>= _) _ _ z
    refine wpAny_bind (wpAny_tryCatch (T.done z _ _ (en ▸ st) fun g tk kp => ?_))
    have hS2 := kp S _ nSw hS
    show wpAny _ _ (updateSeq S (fun _ => #[]) >>= _) _ _ _
    refine wpAny_bind (wpAny_updateSeq hS2 rfl (wpAny_bind (wpAny_letGo (wpAny_pure (fin best _ tk ?_ ?_)))))
    · rw [en]; exact pb
    · exact fun b o b1 b2 e => (Heap.get?_update_other _ _ (fun q => b2 q.symm)).trans (kp b o b1 e)
  | succ left ih =>
    intro j z best cc e1 e2 st pb hS fin
    refine codeAny_builtin F.entry_max_loop ?_
    rw [Around.under_plainId F.plain_max_loop _]
    show wpAny _ _ (seqItems? (Value.ref S) >>= _) _ _ z
    refine wpAny_bind (wpAny_seqItems hS rfl ?_)
    show wpAny _ _ (tryCatch (pyNext (Value.ref I)) _ >>= _) _ _ z
    refine wpAny_bind (wpAny_tryCatch (T.item (j + 1) z _ _ (by omega) st fun v g tk pv st2 kp => ?_))
    have hS2 := kp S _ nSw hS
    show wpAny _ _ (tryCatch (holding [v, v] (richCompare .Gt v best >>= _)) _ >>= _) _ _ _
    refine wpAny_bind (wpAny_tryCatch (wpAny_holding (wpAny_bind (cmp (j + 1) (argBest bt j) v best _ _ _ pv pb (wpAny_bind (wpAny_holding (wpAny_truthy_bool (wpAny_bind (wpAny_letGo (wpAny_pure ?_))))))))))
    by_cases hb : bt (j + 1) (argBest bt j) = true
    · have pa : argBest bt (j + 1) = j + 1 := by simp only [argBest]; rw [if_pos hb]
      rw [hb]
      simp only [if_true]
      refine wpAny_bind (wpAny_updateSeq hS2 rfl (wpAny_bind (wpAny_letGo ?_)))
      rw [nmL]
      refine wpAny_pure ⟨plainId_quiet F.plain_max_loop _, ih (j + 1) _ v _ (by omega) (by omega) (T.frame _ _ _ st2 fun b hbf o e => ?_) (by rw [pa]; exact pv) (Heap.get?_update_self _ hS2 rfl) fun u g2 tk2 pu kp2 => fin u g2 tk2 pu fun b o b1 b2 e => kp2 b o b1 b2 ?_⟩
      · exact (Heap.get?_update_other _ _ (fun q : S = b => nS (q ▸ hbf))).trans e
      · exact (Heap.get?_update_other _ _ (fun q => b2 q.symm)).trans (kp b o b1 e)
    · have pa : argBest bt (j + 1) = argBest bt j := by simp only [argBest]; rw [if_neg hb]
      have hb' : bt (j + 1) (argBest bt j) = false := by simpa using hb
      rw [hb']
      simp only [Bool.false_eq_true, if_false]
      refine wpAny_bind (wpAny_letGo ?_)
      rw [nmL]
      exact wpAny_pure ⟨plainId_quiet F.plain_max_loop _, ih (j + 1) _ best cc (by omega) (by omega) st2 (by rw [pa]; exact pb) hS2 fun u g2 tk2 pu kp2 => fin u g2 tk2 pu fun b o b1 b2 e => kp2 b o b1 b2 (kp b o b1 e)⟩
theorem argsmax_d (a d : Value) : argsOk "max" ⟨[a], [(Str.ofString "default", d)]⟩ := by unfold argsOk; kernel_rfl
/-- max(x, default=d) over a walk -/
theorem callmax_d {prog : Program} {w : World} {A : Around} {x d : Value} {s : Shared} {Q : Value → Shared → Prop} {E : Value → Shared → Prop}
    (h : wpAny (model prog w) A.in1 (pyIter x) (fun it z => ∃ I fp wr n P St bt, it = .ref I ∧ Walks prog w A.in1 I fp wr n P St ∧ St 0 z.heap ∧ (∀ b ∈ fp, b < z.heap.objs.size) ∧ CmpOf prog w A.in1 .Gt P bt ∧
      (∀ v g tk, 0 < n → P (argBest bt (n - 1)) v → (∀ b o, b ∉ wr → z.heap.get? b = some o → g.get? b = some o) → Q v { z with heap := g, toks := tk }) ∧
      (∀ g tk, n = 0 → (∀ b o, b ∉ wr → z.heap.get? b = some o → g.get? b = some o) → Q d { z with heap := g, toks := tk })) E s) :
    wpAny (model prog w) A (call (.builtin "max") [x] [(Str.ofString "default", d)]) Q E s := by
  have nmL : (toString "max" ++ toString ".loop" : String) = "max.loop" := rfl
  refine PyProof.Rows.kmb_tree F.kind_max F.plain_max F.entry_max (argsmax_d _ _) ?_
  show wpAny _ _ (Builtin.Builtins.bindParams "max" ["key", "default"] 0 ⟨[], [(Str.ofString "default", d)]⟩ >>= _) _ _ s
  have eb : Builtin.Builtins.bindParams "max" ["key", "default"] 0 ⟨[], [(Str.ofString "default", d)]⟩ = pure [none, some d] := rfl
  refine wpAny_bind (wpAny_of_eq eb (wpAny_bind (wpAny_pure (wpAny_bind (wpAny_mono h (fun it z hz => ?_) fun _ _ q => q)))))
  obtain ⟨I, fp, wr, n, P, St, bt, rfl, T, st, lt, cmp, f1, f2⟩ := hz
  refine wpAny_bind (wpAny_newList ?_ (Nat.zero_le _))
  have nS : z.heap.objs.size ∉ fp := fun q => Nat.lt_irrefl _ (lt _ q)
  have nSw : z.heap.objs.size ∉ wr := fun q => nS (T.sub _ q)
  rw [nmL]
  refine wpAny_pure ⟨plainId_quiet F.plain_max_loop _, codeAny_builtin F.entry_max_loop ?_⟩
  rw [Around.under_plainId F.plain_max_loop _]
  have hS : (z.heap.push (seqObj "list" #[] 0)).get? z.heap.objs.size = some (seqObj "list" #[] 0) := Heap.get?_push_size _ rfl
  have st1 : St 0 (z.heap.push (seqObj "list" #[] 0)) := T.frame _ _ _ st fun b _ o e => Heap.get?_push_of_some _ e
  show wpAny _ _ (seqItems? (Value.ref z.heap.objs.size) >>= _) _ _ _
  refine wpAny_bind (wpAny_seqItems hS rfl ?_)
  show wpAny _ _ (tryCatch (pyNext (Value.ref I)) _ >>= _) _ _ _
  have old : ∀ (g : Heap), (∀ b o, b ∉ wr → b ≠ z.heap.objs.size → (z.heap.push (seqObj "list" #[] 0)).get? b = some o → g.get? b = some o) → ∀ b o, b ∉ wr → z.heap.get? b = some o → g.get? b = some o :=
    fun g k b o b1 e => k b o b1 (Nat.ne_of_lt (Heap.lt_size e)) (Heap.get?_push_of_some _ e)
  by_cases hn : n = 0
  · subst hn
    refine wpAny_bind (wpAny_tryCatch (T.done _ _ _ st1 fun g tk kp => ?_))
    refine wpAny_bind (wpAny_rule (wpAny_pure ?_))
    exact f2 g tk rfl (old g fun b o b1 _ e => kp b o b1 e)
  · refine wpAny_bind (wpAny_tryCatch (T.item 0 _ _ _ (by omega) st1 fun v g tk pv st2 kp => ?_))
    have hS2 := kp _ _ nSw hS
    show wpAny _ _ (updateSeq z.heap.objs.size (fun _ => #[v, v]) >>= _) _ _ _
    refine wpAny_bind (wpAny_updateSeq hS2 rfl ?_)
    rw [nmL]
    refine wpAny_pure ⟨plainId_quiet F.plain_max_loop _, maxloop T bt cmp z.heap.objs.size nS _ _ 0 _ v _ rfl (by omega) (T.frame _ _ _ st2 fun b hbf o e => ?_) pv (Heap.get?_update_self _ hS2 rfl) fun u g2 tk2 pu kp2 => ?_⟩
    · exact (Heap.get?_update_other _ _ (fun q : z.heap.objs.size = b => nS (q ▸ hbf))).trans e
    · refine f1 u g2 tk2 (by omega) pu (old g2 fun b o b1 b2 e => kp2 b o b1 b2 ?_)
      exact (Heap.get?_update_other _ _ (fun q => b2 q.symm)).trans (kp b o b1 e)

theorem minloop {prog : Program} {w : World} {A : Around} {I : Addr} {fp wr : List Addr} {n : Nat} {P : Nat → Value → Prop} {St : Nat → Heap → Prop} (T : Walks prog w A.in1 I fp wr n P St) (bt : Nat → Nat → Bool) (cmp : CmpOf prog w A.in1 .Lt P bt) (S : Addr) (nS : S ∉ fp) (K : List (Str × Value)) {R : Result → Shared → Prop} :
    ∀ (left j : Nat) (z : Shared) (best : Value) (cc : Nat), n - (j + 1) = left → j + 1 ≤ n → St (j + 1) z.heap → P (argBest bt j) best → z.heap.get? S = some (seqObj "list" #[best, best] cc) →
      (∀ v g tk, P (argBest bt (n - 1)) v → (∀ b o, b ∉ wr → b ≠ S → z.heap.get? b = some o → g.get? b = some o) → R (.ok (.ret v)) { z with heap := g, toks := tk }) →
      codeAny (model prog w) A (.builtin "min.loop" ⟨[.ref I, .none, .ref S], K⟩) R z := by
  have nSw : S ∉ wr := fun q => nS (T.sub _ q)
  have nmL : (toString "min" ++ toString ".loop" : String) = "min.loop" := rfl
  intro left
  induction left with
  | zero =>
    intro j z best cc e1 e2 st pb hS fin
    have en : n = j + 1 := by omega
    refine codeAny_builtin F.entry_min_loop ?_
    rw [Around.under_plainId F.plain_min_loop _]
    show wpAny _ _ (seqItems? (Value.ref S) >>= _) _ _ z
    refine wpAny_bind (wpAny_seqItems hS rfl ?_)
    show wpAny _ _ (tryCatch (pyNext (Value.ref I)) _ >>= _) _ _ z
    refine wpAny_bind (wpAny_tryCatch (T.done z _ _ (en ▸ st) fun g tk kp => ?_))
    have hS2 := kp S _ nSw hS
    show wpAny _ _ (updateSeq S (fun _ => #[]) >>= _) _ _ _
    refine wpAny_bind (wpAny_updateSeq hS2 rfl (wpAny_bind (wpAny_letGo (wpAny_pure (fin best _ tk ?_ ?_)))))
    · rw [en]; exact pb
    · exact fun b o b1 b2 e => (Heap.get?_update_other _ _ (fun q => b2 q.symm)).trans (kp b o b1 e)
  | succ left ih =>
    intro j z best cc e1 e2 st pb hS fin
    refine codeAny_builtin F.entry_min_loop ?_
    rw [Around.under_plainId F.plain_min_loop _]
    show wpAny _ _ (seqItems? (Value.ref S) >>= _) _ _ z
    refine wpAny_bind (wpAny_seqItems hS rfl ?_)
    show wpAny _ _ (tryCatch (pyNext (Value.ref I)) _ >>= _) _ _ z
    refine wpAny_bind (wpAny_tryCatch (T.item (j + 1) z _ _ (by omega) st fun v g tk pv st2 kp => ?_))
    have hS2 := kp S _ nSw hS
    show wpAny _ _ (tryCatch (holding [v, v] (richCompare .Lt v best >>= _)) _ >>= _) _ _ _
    refine wpAny_bind (wpAny_tryCatch (wpAny_holding (wpAny_bind (cmp (j + 1) (argBest bt j) v best _ _ _ pv pb (wpAny_bind (wpAny_holding (wpAny_truthy_bool (wpAny_bind (wpAny_letGo (wpAny_pure ?_))))))))))
    by_cases hb : bt (j + 1) (argBest bt j) = true
    · have pa : argBest bt (j + 1) = j + 1 := by simp only [argBest]; rw [if_pos hb]
      rw [hb]
      simp only [if_true]
      refine wpAny_bind (wpAny_updateSeq hS2 rfl (wpAny_bind (wpAny_letGo ?_)))
      rw [nmL]
      refine wpAny_pure ⟨plainId_quiet F.plain_min_loop _, ih (j + 1) _ v _ (by omega) (by omega) (T.frame _ _ _ st2 fun b hbf o e => ?_) (by rw [pa]; exact pv) (Heap.get?_update_self _ hS2 rfl) fun u g2 tk2 pu kp2 => fin u g2 tk2 pu fun b o b1 b2 e => kp2 b o b1 b2 ?_⟩
      · exact (Heap.get?_update_other _ _ (fun q : S = b => nS (q ▸ hbf))).trans e
      · exact (Heap.get?_update_other _ _ (fun q => b2 q.symm)).trans (kp b o b1 e)
    · have pa : argBest bt (j + 1) = argBest bt j := by simp only [argBest]; rw [if_neg hb]
      have hb' : bt (j + 1) (argBest bt j) = false := by simpa using hb
      rw [hb']
      simp only [Bool.false_eq_true, if_false]
      refine wpAny_bind (wpAny_letGo ?_)
      rw [nmL]
      exact wpAny_pure ⟨plainId_quiet F.plain_min_loop _, ih (j + 1) _ best cc (by omega) (by omega) st2 (by rw [pa]; exact pb) hS2 fun u g2 tk2 pu kp2 => fin u g2 tk2 pu fun b o b1 b2 e => kp2 b o b1 b2 (kp b o b1 e)⟩
theorem argsmin_d (a d : Value) : argsOk "min" ⟨[a], [(Str.ofString "default", d)]⟩ := by unfold argsOk; kernel_rfl
/-- min(x, default=d) over a walk -/
theorem callmin_d {prog : Program} {w : World} {A : Around} {x d : Value} {s : Shared} {Q : Value → Shared → Prop} {E : Value → Shared → Prop}
    (h : wpAny (model prog w) A.in1 (pyIter x) (fun it z => ∃ I fp wr n P St bt, it = .ref I ∧ Walks prog w A.in1 I fp wr n P St ∧ St 0 z.heap ∧ (∀ b ∈ fp, b < z.heap.objs.size) ∧ CmpOf prog w A.in1 .Lt P bt ∧
      (∀ v g tk, 0 < n → P (argBest bt (n - 1)) v → (∀ b o, b ∉ wr → z.heap.get? b = some o → g.get? b = some o) → Q v { z with heap := g, toks := tk }) ∧
      (∀ g tk, n = 0 → (∀ b o, b ∉ wr → z.heap.get? b = some o → g.get? b = some o) → Q d { z with heap := g, toks := tk })) E s) :
    wpAny (model prog w) A (call (.builtin "min") [x] [(Str.ofString "default", d)]) Q E s := by
  have nmL : (toString "min" ++ toString ".loop" : String) = "min.loop" := rfl
  refine PyProof.Rows.kmb_tree F.kind_min F.plain_min F.entry_min (argsmin_d _ _) ?_
  show wpAny _ _ (Builtin.Builtins.bindParams "min" ["key", "default"] 0 ⟨[], [(Str.ofString "default", d)]⟩ >>= _) _ _ s
  have eb : Builtin.Builtins.bindParams "min" ["key", "default"] 0 ⟨[], [(Str.ofString "default", d)]⟩ = pure [none, some d] := rfl
  refine wpAny_bind (wpAny_of_eq eb (wpAny_bind (wpAny_pure (wpAny_bind (wpAny_mono h (fun it z hz => ?_) fun _ _ q => q)))))
  obtain ⟨I, fp, wr, n, P, St, bt, rfl, T, st, lt, cmp, f1, f2⟩ := hz
  refine wpAny_bind (wpAny_newList ?_ (Nat.zero_le _))
  have nS : z.heap.objs.size ∉ fp := fun q => Nat.lt_irrefl _ (lt _ q)
  have nSw : z.heap.objs.size ∉ wr := fun q => nS (T.sub _ q)
  rw [nmL]
  refine wpAny_pure ⟨plainId_quiet F.plain_min_loop _, codeAny_builtin F.entry_min_loop ?_⟩
  rw [Around.under_plainId F.plain_min_loop _]
  have hS : (z.heap.push (seqObj "list" #[] 0)).get? z.heap.objs.size = some (seqObj "list" #[] 0) := Heap.get?_push_size _ rfl
  have st1 : St 0 (z.heap.push (seqObj "list" #[] 0)) := T.frame _ _ _ st fun b _ o e => Heap.get?_push_of_some _ e
  show wpAny _ _ (seqItems? (Value.ref z.heap.objs.size) >>= _) _ _ _
  refine wpAny_bind (wpAny_seqItems hS rfl ?_)
  show wpAny _ _ (tryCatch (pyNext (Value.ref I)) _ >>= _) _ _ _
  have old : ∀ (g : Heap), (∀ b o, b ∉ wr → b ≠ z.heap.objs.size → (z.heap.push (seqObj "list" #[] 0)).get? b = some o → g.get? b = some o) → ∀ b o, b ∉ wr → z.heap.get? b = some o → g.get? b = some o :=
    fun g k b o b1 e => k b o b1 (Nat.ne_of_lt (Heap.lt_size e)) (Heap.get?_push_of_some _ e)
  by_cases hn : n = 0
  · subst hn
    refine wpAny_bind (wpAny_tryCatch (T.done _ _ _ st1 fun g tk kp => ?_))
    refine wpAny_bind (wpAny_rule (wpAny_pure ?_))
    exact f2 g tk rfl (old g fun b o b1 _ e => kp b o b1 e)
  · refine wpAny_bind (wpAny_tryCatch (T.item 0 _ _ _ (by omega) st1 fun v g tk pv st2 kp => ?_))
    have hS2 := kp _ _ nSw hS
    show wpAny _ _ (updateSeq z.heap.objs.size (fun _ => #[v, v]) >>= _) _ _ _
    refine wpAny_bind (wpAny_updateSeq hS2 rfl ?_)
    rw [nmL]
    refine wpAny_pure ⟨plainId_quiet F.plain_min_loop _, minloop T bt cmp z.heap.objs.size nS _ _ 0 _ v _ rfl (by omega) (T.frame _ _ _ st2 fun b hbf o e => ?_) pv (Heap.get?_update_self _ hS2 rfl) fun u g2 tk2 pu kp2 => ?_⟩
    · exact (Heap.get?_update_other _ _ (fun q : z.heap.objs.size = b => nS (q ▸ hbf))).trans e
    · refine f1 u g2 tk2 (by omega) pu (old g2 fun b o b1 b2 e => kp2 b o b1 b2 ?_)
      exact (Heap.get?_update_other _ _ (fun q => b2 q.symm)).trans (kp b o b1 e)
end Ng
end
section
set_option Elab.async false
set_option linter.all false
set_option maxRecDepth 100000
set_option maxHeartbeats 4000000
set_option autoImplicit false
namespace Ng
open PySem PySem.Spec PyProof.Rows L2
def valI (l : List Int) (j : Nat) : Int := (l[j]?).getD 0
theorem valI_of {l : List Int} {its : List Value} (p : Vals (l.map V.int) its) {j : Nat} {v : Value} (hv : its.toArray[j]? = some v) : ∃ t, v = .int (valI l j) t := by
  have hv' : its[j]? = some v := by simpa using hv
  have hj : j < its.length := (List.getElem?_eq_some_iff.mp hv').1
  have hl := p.length
  rw [List.length_map] at hl
  have e : (l.map V.int)[j]? = some (.int l[j]) := by rw [List.getElem?_map, List.getElem?_eq_getElem (by omega)]; rfl
  obtain ⟨u, hu, r⟩ := p.get e
  rw [hv'] at hu; cases hu
  obtain ⟨t, rfl⟩ := r
  exact ⟨t, by simp [valI, List.getElem?_eq_getElem (show j < l.length by omega)]⟩
theorem listWalk {prog : Program} {w : World} {A : Around} {s : Shared} {a : Addr} {items : Array Value} (hh : A.handled = none) (hl : s.heap.IsList a items) :
    Walks prog w A s.heap.objs.size [s.heap.objs.size, a] [s.heap.objs.size] items.size (fun i v => items[i]? = some v) (fun i h => h.IsListIter s.heap.objs.size a i ∧ h.IsList a items) ∧
    ((s.heap.push { cls := .type "list_iterator", data := .fields #[.ref a, .int 0 0] }).IsListIter s.heap.objs.size a 0 ∧ (s.heap.push { cls := .type "list_iterator", data := .fields #[.ref a, .int 0 0] }).IsList a items) ∧
    (∀ b ∈ [s.heap.objs.size, a], b < (s.heap.push { cls := .type "list_iterator", data := .fields #[.ref a, .int 0 0] }).objs.size) ∧
    ∀ g : Heap, (∀ b o, b ∉ [s.heap.objs.size] → (s.heap.push { cls := .type "list_iterator", data := .fields #[.ref a, .int 0 0] }).get? b = some o → g.get? b = some o) → ∀ b o, s.heap.get? b = some o → g.get? b = some o := by
  have lt : a < s.heap.objs.size := by obtain ⟨_, e, _⟩ := hl; exact Heap.lt_size e
  refine ⟨Walks.list hh _ a (Nat.ne_of_lt lt) items, ⟨⟨_, Heap.get?_push_size _ rfl, rfl, rfl⟩, hl.push _⟩, fun b hb => ?_, fun g kp b o e => kp b o (fun z => ?_) (Heap.get?_push_of_some _ e)⟩
  · rw [Heap.size_push]
    simp at hb
    rcases hb with rfl | rfl
    · exact Nat.lt_succ_self _
    · exact Nat.lt_succ_of_lt lt
  · simp at z
    subst z
    exact Nat.lt_irrefl _ (Heap.lt_size e)
section
variable {X : Cx}
theorem maxbest (i : Int) : ∀ (r : List Int) (k : Nat), k ≤ r.length → valI (i :: r) (argBest (fun a b => decide (valI (i :: r) a > valI (i :: r) b)) k) = maxI i (r.take k)
  | r, 0, _ => by simp [argBest, valI, maxI]
  | r, k + 1, hk => by
    have ih := maxbest i r k (by omega)
    have hk' : k < r.length := by omega
    have e1 : r.take (k + 1) = r.take k ++ [r[k]] := by rw [List.take_succ, List.getElem?_eq_getElem hk']; rfl
    have e2 : valI (i :: r) (k + 1) = r[k] := by simp [valI, List.getElem?_eq_getElem hk']
    have e3 : maxI i (r.take (k + 1)) = if r[k] > maxI i (r.take k) then r[k] else maxI i (r.take k) := by
      rw [e1]; unfold maxI; rw [List.foldl_append]; rfl
    rw [e3, ← ih]
    simp only [argBest]
    by_cases hb : valI (i :: r) (k + 1) > valI (i :: r) (argBest (fun a b => decide (valI (i :: r) a > valI (i :: r) b)) k)
    · rw [if_pos (decide_eq_true hb), if_pos (by rw [← e2]; exact hb), e2]
    · rw [if_neg (by rw [decide_eq_false hb]; exact Bool.false_ne_true), if_neg (by rw [← e2]; exact hb)]
theorem maxcall1 (hc : X.calm = true) {pins : List (Addr × Obj)} {s : Shared} {σ : Sg} {H : Hp} {a : Addr} {i : Int} {r : List Int} {Q : VK} (I : Inv X pins σ H s) (hq : SqL X.K H a ((i :: r).map V.int)) (q : Q (.int (maxI i r)) H) :
    wpAny (model X.prog X.w) X.A (call (.builtin "max") [.ref a]) (EP X pins σ Q) X.xe s := by
  obtain ⟨its, p1, t1, _⟩ := I.list hq
  refine call_max_walk (wpAny_pyIter_list t1.isList ?_)
  obtain ⟨h1, h2, h3, h4⟩ := listWalk (A := X.A.in1) (prog := X.prog) (w := X.w) (s := s) (I.ok.hd hc) t1.isList
  refine ⟨_, _, _, _, _, _, _, rfl, h1, h2, h3, ?_, CmpOf.ints_gt (valI (i :: r)) (fun j v hv => valI_of p1 hv), fun v g tk hv kp => ?_⟩
  · have := p1.length
    simp at this ⊢
    omega
  · obtain ⟨t, rfl⟩ := valI_of p1 hv
    have hl : its.toArray.size - 1 = r.length := by
      have := p1.length
      simp at this ⊢
      omega
    rw [hl, maxbest i r r.length (Nat.le_refl _), List.take_length]
    exact ⟨.int (maxI i r), H, I.kept (h4 g kp), ⟨t, rfl⟩, q⟩
theorem maxcallD (hc : X.calm = true) {pins : List (Addr × Obj)} {s : Shared} {σ : Sg} {H : Hp} {a : Addr} {l : List Int} {d : V} {u : Value} {Q : VK} (I : Inv X pins σ H s) (hq : SqL X.K H a (l.map V.int)) (ru : RelV d u) (q0 : l = [] → Q d H) (q1 : ∀ i r, l = i :: r → Q (.int (maxI i r)) H) :
    wpAny (model X.prog X.w) X.A (call (.builtin "max") [.ref a] [(Str.ofString "default", u)]) (EP X pins σ Q) X.xe s := by
  obtain ⟨its, p1, t1, _⟩ := I.list hq
  refine callmax_d (wpAny_pyIter_list t1.isList ?_)
  obtain ⟨h1, h2, h3, h4⟩ := listWalk (A := X.A.in1) (prog := X.prog) (w := X.w) (s := s) (I.ok.hd hc) t1.isList
  have hlen := p1.length
  rw [List.length_map] at hlen
  refine ⟨_, _, _, _, _, _, _, rfl, h1, h2, h3, CmpOf.ints_gt (valI l) (fun j v hv => valI_of p1 hv), fun v g tk hn hv kp => ?_, fun g tk hn kp => ?_⟩
  · cases l with
    | nil => simp at hlen hn; omega
    | cons i r =>
      obtain ⟨t, rfl⟩ := valI_of p1 hv
      have hl : its.toArray.size - 1 = r.length := by
        simp at hlen ⊢
        omega
      rw [hl, maxbest i r r.length (Nat.le_refl _), List.take_length]
      exact ⟨.int (maxI i r), H, I.kept (h4 g kp), ⟨t, rfl⟩, q1 i r rfl⟩
  · have hl : l = [] := by
      cases l with
      | nil => rfl
      | cons i r => simp at hlen hn; rw [hn] at hlen; simp at hlen
    exact ⟨d, H, I.kept (h4 g kp), ru, q0 hl⟩

theorem minbest (i : Int) : ∀ (r : List Int) (k : Nat), k ≤ r.length → valI (i :: r) (argBest (fun a b => decide (valI (i :: r) a < valI (i :: r) b)) k) = minI i (r.take k)
  | r, 0, _ => by simp [argBest, valI, minI]
  | r, k + 1, hk => by
    have ih := minbest i r k (by omega)
    have hk' : k < r.length := by omega
    have e1 : r.take (k + 1) = r.take k ++ [r[k]] := by rw [List.take_succ, List.getElem?_eq_getElem hk']; rfl
    have e2 : valI (i :: r) (k + 1) = r[k] := by simp [valI, List.getElem?_eq_getElem hk']
    have e3 : minI i (r.take (k + 1)) = if r[k] < minI i (r.take k) then r[k] else minI i (r.take k) := by
      rw [e1]; unfold minI; rw [List.foldl_append]; rfl
    rw [e3, ← ih]
    simp only [argBest]
    by_cases hb : valI (i :: r) (k + 1) < valI (i :: r) (argBest (fun a b => decide (valI (i :: r) a < valI (i :: r) b)) k)
    · rw [if_pos (decide_eq_true hb), if_pos (by rw [← e2]; exact hb), e2]
    · rw [if_neg (by rw [decide_eq_false hb]; exact Bool.false_ne_true), if_neg (by rw [← e2]; exact hb)]
theorem mincall1 (hc : X.calm = true) {pins : List (Addr × Obj)} {s : Shared} {σ : Sg} {H : Hp} {a : Addr} {i : Int} {r : List Int} {Q : VK} (I : Inv X pins σ H s) (hq : SqL X.K H a ((i :: r).map V.int)) (q : Q (.int (minI i r)) H) :
    wpAny (model X.prog X.w) X.A (call (.builtin "min") [.ref a]) (EP X pins σ Q) X.xe s := by
  obtain ⟨its, p1, t1, _⟩ := I.list hq
  refine call_min_walk (wpAny_pyIter_list t1.isList ?_)
  obtain ⟨h1, h2, h3, h4⟩ := listWalk (A := X.A.in1) (prog := X.prog) (w := X.w) (s := s) (I.ok.hd hc) t1.isList
  refine ⟨_, _, _, _, _, _, _, rfl, h1, h2, h3, ?_, CmpOf.ints_lt (valI (i :: r)) (fun j v hv => valI_of p1 hv), fun v g tk hv kp => ?_⟩
  · have := p1.length
    simp at this ⊢
    omega
  · obtain ⟨t, rfl⟩ := valI_of p1 hv
    have hl : its.toArray.size - 1 = r.length := by
      have := p1.length
      simp at this ⊢
      omega
    rw [hl, minbest i r r.length (Nat.le_refl _), List.take_length]
    exact ⟨.int (minI i r), H, I.kept (h4 g kp), ⟨t, rfl⟩, q⟩
theorem mincallD (hc : X.calm = true) {pins : List (Addr × Obj)} {s : Shared} {σ : Sg} {H : Hp} {a : Addr} {l : List Int} {d : V} {u : Value} {Q : VK} (I : Inv X pins σ H s) (hq : SqL X.K H a (l.map V.int)) (ru : RelV d u) (q0 : l = [] → Q d H) (q1 : ∀ i r, l = i :: r → Q (.int (minI i r)) H) :
    wpAny (model X.prog X.w) X.A (call (.builtin "min") [.ref a] [(Str.ofString "default", u)]) (EP X pins σ Q) X.xe s := by
  obtain ⟨its, p1, t1, _⟩ := I.list hq
  refine callmin_d (wpAny_pyIter_list t1.isList ?_)
  obtain ⟨h1, h2, h3, h4⟩ := listWalk (A := X.A.in1) (prog := X.prog) (w := X.w) (s := s) (I.ok.hd hc) t1.isList
  have hlen := p1.length
  rw [List.length_map] at hlen
  refine ⟨_, _, _, _, _, _, _, rfl, h1, h2, h3, CmpOf.ints_lt (valI l) (fun j v hv => valI_of p1 hv), fun v g tk hn hv kp => ?_, fun g tk hn kp => ?_⟩
  · cases l with
    | nil => simp at hlen hn; omega
    | cons i r =>
      obtain ⟨t, rfl⟩ := valI_of p1 hv
      have hl : its.toArray.size - 1 = r.length := by
        simp at hlen ⊢
        omega
      rw [hl, minbest i r r.length (Nat.le_refl _), List.take_length]
      exact ⟨.int (minI i r), H, I.kept (h4 g kp), ⟨t, rfl⟩, q1 i r rfl⟩
  · have hl : l = [] := by
      cases l with
      | nil => rfl
      | cons i r => simp at hlen hn; rw [hn] at hlen; simp at hlen
    exact ⟨d, H, I.kept (h4 g kp), ru, q0 hl⟩
end
end Ng
end
section
set_option Elab.async false
set_option linter.all false
set_option maxRecDepth 100000
set_option maxHeartbeats 4000000
set_option autoImplicit false
namespace Ng
open PySem PySem.Spec PyProof.Rows L2
section
variable {X : Cx}
def tyName : D → Hh → Option String
  | .non, _ => some "NoneType"
  | d, h => (tyD d h).map Ty.nm
theorem isin_kit {K : PySem.W.Frag} {d : D} {h : Hh} {T : String} {b : Bool} (e : isinD d T h = some b) : ∃ t, tyName d h = some t ∧ PySem.W.kitOne K (.type t) (.type T) = some b := by
  unfold isinD at e
  split at e
  · split at e
    · rename_i hT
      have eb := Option.some.inj e
      subst eb
      refine ⟨"NoneType", rfl, ?_⟩
      simp [tyNames] at hT
      rcases hT with rfl | rfl | rfl | rfl | rfl <;> rfl
    · cases e
  · rename_i hn
    split at e
    · rename_i t et
      split at e
      · rename_i hT
        have eb := Option.some.inj e
        subst eb
        refine ⟨t.nm, ?_, ?_⟩
        · cases d <;> first | (exact absurd rfl hn) | (simp [tyName, et])
        · simp [tyNames] at hT
          cases t <;> rcases hT with rfl | rfl | rfl | rfl | rfl <;> rfl
      · cases e
    · cases e
theorem kia_D {pins : List (Addr × Obj)} {σ : Sg} {H : Hp} {s : Shared} {m : List Addr} {h : Hh} (I : Inv X pins σ H s) (w : Wd X.K m h H) {d : D} {v : V} {u : Value} {t : String} (r : RD X.K m H d v) (rv : RelV v u) (e : tyName d h = some t) :
    ∃ P : Heap → Prop, PySem.W.KitX X.K u (.type t) P ∧ P s.heap ∧ u ≠ .builtin "__main__.__loader__#opaque" := by
  cases r with
  | non => cases rv; cases e; exact ⟨_, PySem.W.kitx_none, trivial, fun z => nomatch z⟩
  | bl c => cases rv; cases e; exact ⟨_, PySem.W.kitx_bool, trivial, fun z => nomatch z⟩
  | int i => obtain ⟨t', rfl⟩ := rv; cases e; exact ⟨_, PySem.W.kitx_int, trivial, fun z => nomatch z⟩
  | str x => obtain ⟨t', rfl⟩ := rv; cases e; exact ⟨_, PySem.W.kitx_str, trivial, fun z => nomatch z⟩
  | ty n => cases e
  | tup h1 q =>
    cases rv; cases e
    obtain ⟨its, p1, ⟨o, h2, h3, _⟩, _⟩ := I.tuple h1
    exact ⟨_, PySem.W.kitx_tuple, ⟨o, h2, h3⟩, fun z => nomatch z⟩
  | ref ha =>
    rename_i n a
    cases rv
    simp only [tyName, tyD] at e
    cases z : lstAt h n with
    | none => rw [z] at e; cases e
    | some l =>
      rw [z] at e
      have e' : "list" = t := Option.some.inj e
      subst e'
      obtain ⟨a', vs, ha', hq, q⟩ := w.lst z
      rw [ha] at ha'; cases ha'
      obtain ⟨its, p1, ⟨o, k, h2, h3, _⟩, _⟩ := I.list hq
      exact ⟨_, PySem.W.kitx_list, ⟨o, h2, h3⟩, fun z => nomatch z⟩
theorem vals2R {x y : V} {us : List Value} (r : Vals [x, y] us) : ∃ u v, us = [u, v] ∧ RelV x u ∧ RelV y v := by
  cases r with
  | cons a t => cases t with
    | cons b t => cases t; exact ⟨_, _, rfl, a, b⟩
theorem one_of {K : PySem.W.Frag} {m : List Addr} {H : Hp} {k : D → Hh → Rs D} {ds : List D} {xs : List V} {h h' : Hh} {d : D} (r : RDs K m H ds xs) (e : one k ds h = .ok d h') : ∃ x v, xs = [v] ∧ RD K m H x v ∧ k x h = .ok d h' := by
  cases r with
  | nil => cases e
  | cons r1 r =>
    cases r with
    | nil => exact ⟨_, _, rfl, r1, e⟩
    | cons => cases e
theorem two_of {K : PySem.W.Frag} {m : List Addr} {H : Hp} {k : D → D → Hh → Rs D} {ds : List D} {xs : List V} {h h' : Hh} {d : D} (r : RDs K m H ds xs) (e : two k ds h = .ok d h') : ∃ x y v u, xs = [v, u] ∧ RD K m H x v ∧ RD K m H y u ∧ k x y h = .ok d h' := by
  cases r with
  | nil => cases e
  | cons r1 r =>
    cases r with
    | nil => cases e
    | cons r2 r =>
      cases r with
      | nil => exact ⟨_, _, _, _, rfl, r1, r2, e⟩
      | cons => cases e
theorem tys_vals {K : PySem.W.Frag} {m : List Addr} {H : Hp} : ∀ {ds : List D} {vs : List V} {us : List Value} {Ts : List String}, RDs K m H ds vs → Vals vs us → tysOf ds = some Ts → us = Ts.map Value.type
  | _, _, _, _, .nil, .nil, e => by
    have e' := Option.some.inj e
    subst e'
    rfl
  | _, _, _, _, .cons r q, .cons v t, e => by
    cases r <;> first | (cases e; done) | skip
    simp only [tysOf] at e
    split at e
    · rename_i l el
      have e' := Option.some.inj e
      subst e'
      cases v
      rw [tys_vals q t el]
      rfl
    · cases e
theorem isinAny_kit {K : PySem.W.Frag} {d : D} {h : Hh} {t : String} (et : tyName d h = some t) : ∀ {Ts : List String} {b : Bool}, isinAny d h Ts = some b → PySem.W.kitAny K (.type t) (Ts.map Value.type) = some b
  | [], b, e => e
  | T :: r, b, e => by
    simp only [isinAny] at e
    split at e
    · rename_i a c e1 e2
      have e' := Option.some.inj e
      subst e'
      obtain ⟨t', et', ek⟩ := isin_kit (K := K) e1
      rw [et] at et'; cases et'
      have ih := isinAny_kit (K := K) et e2
      simp only [List.map_cons, PySem.W.kitAny, ek, ih]
      cases a <;> rfl
    · cases e
def Blt.val : Blt → Value
  | .len => .builtin "len" | .isinst => .builtin "isinstance" | .int => .type "int" | .list => .type "list" | .max => .builtin "max" | .min => .builtin "min"
theorem ints_rel {K : PySem.W.Frag} {m : List Addr} {H : Hp} : ∀ {ds : List D} {vs : List V} {l : List Int}, RDs K m H ds vs → intsD ds = some l → vs = l.map V.int
  | _, _, _, .nil, e => by cases e; rfl
  | _, _, l, .cons r t, e => by
    cases r <;> first | (cases e; done) | skip
    rename_i i
    simp only [intsD, Option.map_eq_some_iff] at e
    obtain ⟨l', e1, rfl⟩ := e
    rw [ints_rel t e1]
    rfl
theorem lst_of {m : List Addr} {h : Hh} {H : Hp} {K : PySem.W.Frag} (w : Wd K m h H) {d : D} {v : V} {l : List D} (r : RD K m H d v) (hl : isLst d h = true) (e : seqD d h = some l) : ∃ p vs, v = .ref p ∧ SqL K H p vs ∧ RDs K m H l vs := by
  cases r <;> first | (cases hl; done) | skip
  rename_i n a ha
  obtain ⟨a', vs, ha', hq, q⟩ := w.lst (show lstAt h n = some l from e)
  rw [ha] at ha'; cases ha'
  exact ⟨a, vs, rfl, hq, q⟩
theorem bestBlt (hc : X.calm = true) (mx : Bool) : CallR X (.builtin (if mx then "max" else "min")) (rDc X.K (bestL mx)) := by
  intro pins s σ H xs us Q I rs q
  obtain ⟨m, h, ds, d, h', w, r, e, c⟩ := q
  have fin : ∀ z, RD X.K m H d z → h = h' → Q z H := fun z rz eh => by subst eh; exact c m z H Gr.refl w rz
  cases r with
  | nil => cases e
  | cons r1 r =>
    cases r with
    | nil =>
      simp only [bestL] at e
      split at e
      · rename_i l hl el
        split at e
        · rename_i i r' ei
          simp at e
          obtain ⟨rfl, rfl⟩ := e
          obtain ⟨p, vs, rfl, hq, q⟩ := lst_of w r1 hl el
          have ev := ints_rel q ei
          subst ev
          obtain ⟨u, rfl, ru⟩ := vals1 rs
          cases ru
          cases mx with
          | true => exact maxcall1 hc I hq (fin _ (.int _) rfl)
          | false => exact mincall1 hc I hq (fin _ (.int _) rfl)
        · cases e
      · cases e
    | cons r2 r =>
      cases r with
      | cons => cases e
      | nil =>
        cases r1 <;> first | (cases e; done) | skip
        rename_i i
        cases r2 <;> first | (cases e; done) | skip
        rename_i j
        simp [bestL] at e
        obtain ⟨rfl, rfl⟩ := e
        cases mx with
        | true => exact call_max2 hc pins s σ H _ us Q I rs ⟨i, j, rfl, fin _ (.int _) rfl⟩
        | false => exact call_min2 hc pins s σ H _ us Q I rs ⟨i, j, rfl, fin _ (.int _) rfl⟩
theorem callBlt (hc : X.calm = true) (f : Blt) : CallR X f.val (rDc X.K (bltD f)) := by
  by_cases hm : f = .max
  · subst hm; exact bestBlt hc true
  by_cases hm' : f = .min
  · subst hm'; exact bestBlt hc false
  intro pins s σ H xs us Q I rs q
  obtain ⟨m, h, ds, d, h', w, r, e, c⟩ := q
  have fin : ∀ z, RD X.K m H d z → h = h' → Q z H := fun z rz eh => by subst eh; exact c m z H Gr.refl w rz
  cases f with
  | max => exact absurd rfl hm
  | min => exact absurd rfl hm'
  | len =>
    obtain ⟨x, v, rfl, r1, e⟩ := one_of r e
    unfold lenL at e
    split at e
    · rename_i l el
      simp at e
      obtain ⟨rfl, rfl⟩ := e
      obtain ⟨p, vs, rfl, hq, q⟩ := seq_of w r1 el
      refine call_len_seq pins s σ H _ us Q I rs ⟨p, vs, rfl, hq, ?_⟩
      rw [← q.length]
      exact fin _ (.int _) rfl
    · cases e
  | int =>
    obtain ⟨x, v, rfl, r1, e⟩ := one_of r e
    cases r1 <;> first | (cases e; done) | skip
    · cases e
      exact call_int1 pins s σ H _ us Q I rs (.inr ⟨_, rfl, fin _ (.int _) rfl⟩)
    · cases e
      exact call_int1 pins s σ H _ us Q I rs (.inl ⟨_, rfl, fin _ (.int _) rfl⟩)
  | list =>
    obtain ⟨x, v, rfl, r1, e⟩ := one_of r e
    unfold listL at e
    split at e
    · rename_i l el
      simp at e
      obtain ⟨rfl, rfl⟩ := e
      obtain ⟨p, vs, rfl, hq, q⟩ := seq_of w r1 el
      refine call_list_of pins s σ H _ us Q I rs ⟨p, vs, rfl, hq, fun a ha => ?_⟩
      obtain ⟨w2, g2⟩ := w.lstNew ha q
      exact c _ _ _ g2 w2 (.ref (by rw [← w.len]; simp))
    · cases e
  | isinst =>
    obtain ⟨x, y, v, u, rfl, r1, r2, e⟩ := two_of r e
    obtain ⟨u1, u2, rfl, rv1, rv2⟩ := vals2R rs
    cases r2 <;> first | (cases e; done) | skip
    · rename_i T
      cases rv2
      simp only [isinL] at e
      split at e
      · rename_i b eb
        simp at e
        obtain ⟨rfl, rfl⟩ := e
        obtain ⟨t, et, ek⟩ := isin_kit (K := X.K) eb
        obtain ⟨P, Z, hP, hx⟩ := kia_D I w r1 rv1 et
        exact PySem.W.kia_one Z I.kIn hP ek hx fun tk => ⟨.bl b, H, I.tok tk, rfl, fin _ (.bl b) rfl⟩
      · cases e
    · rename_i a ds vs h1 q1
      cases rv2
      simp only [isinL] at e
      split at e
      · cases e
      · rename_i T Ts eT
        split at e
        · rename_i b eb
          simp at e
          obtain ⟨rfl, rfl⟩ := e
          have e1 : ∃ k, isinD x T h = some k := by
            simp only [isinAny] at eb
            split at eb
            · rename_i z _; exact ⟨_, z⟩
            · cases eb
          obtain ⟨k, e1⟩ := e1
          obtain ⟨t, et, _⟩ := isin_kit (K := X.K) e1
          obtain ⟨P, Z, hP, hx⟩ := kia_D I w r1 rv1 et
          obtain ⟨its, p1, ⟨⟨oc, od, odt, osl⟩, h2, h3, n, h4⟩, _⟩ := I.tuple h1
          simp only at h3 h4
          subst h3 h4
          rw [tys_vals q1 p1 eT] at h2
          exact PySem.W.kia_tup Z I.kIn hP h2 (isinAny_kit et eb) hx fun tk => ⟨.bl b, H, I.tok tk, rfl, fin _ (.bl _) rfl⟩
        · cases e
      · cases e
end
end Ng
end
section
set_option Elab.async false
set_option linter.all false
set_option maxRecDepth 100000
set_option maxHeartbeats 4000000
set_option autoImplicit false
namespace Ng
open PySem PySem.Spec PyProof.Rows L2
section
variable {X : Cx} {N : List Str} {sc : Scope} {G : Gs} {cl : Cl}
theorem visB_ok {x : Str} (h : visB sc x = true) : Vis sc x := by
  unfold visB at h
  split at h
  · rename_i e; exact .inl e
  · rename_i e; exact .inr (.inl e)
  · rename_i e; exact .inr (.inr e)
  · cases h
theorem locB_ok {x : Str} (h : locB sc x = true) : Loc sc x := by
  unfold locB at h
  split at h
  · rename_i e; exact .inl e
  · rename_i e; exact .inr e
  · cases h
theorem glB_ok (xo : XOk X N sc) {x : Str} (h : glB sc x = true) : Gl X x := by
  unfold glB at h
  split at h
  · rename_i e
    show X.env.scope.names.lookup x = some .globalImplicit
    rw [xo.s]; exact e
  · cases h
theorem noDbg_ok {x : Str} (h : noDbg x = true) : (x == ("__debug__" : Str)) = false ∧ (x == ("__classdict__" : Str)) = false ∧ x ≠ "__name__" := by
  unfold noDbg at h
  simp only [Bool.and_eq_true, Bool.not_eq_true'] at h
  exact ⟨h.1.1, h.1.2, fun z => by have := h.2; rw [z] at this; simp at this⟩
theorem tOf {e : PySem.Expr} {f : Ev → Hh → Rs D} (h : PE X e (TDE X.K f)) (he : ∀ whole, isTrue e X.env whole = (do let v ← whole; standAt e.pos; holding [v] (truthy v))) : PT X e (TDT X.K f) :=
  L2.PT.wk (pt_truth h he) fun s H Q ⟨m, r, hh, d, h', b, w, st, e1, eb, c⟩ => ⟨m, r, hh, d, h', w, st, e1, fun m' v H' g w' rd => ⟨b, truRel w' rd eb, c m' H' g w'⟩⟩
theorem cmpD_bl {op : Cop} {x y d : D} {h h' : Hh} (e : cmpD op x y h = .ok d h') : ∃ k, d = .bl k := by
  unfold cmpD at e
  split at e
  all_goals first
    | (cases e; exact ⟨_, rfl⟩)
    | (split at e <;> first
        | (cases e; exact ⟨_, rfl⟩)
        | (cases e; done)
        | (unfold inD at e; split at e <;> first | (cases e; exact ⟨_, rfl⟩) | (cases e; done)))
    | (cases e; done)
/-- and, or, not of any truth -/
def tAndG (K : PySem.W.Frag) (ta tb : TE) : TE := fun σ H Q => ta σ H fun x H1 => ∃ k, TruV K x H1 k ∧ if k = true then tb σ H1 Q else Q x H1
def tOrG (K : PySem.W.Frag) (ta tb : TE) : TE := fun σ H Q => ta σ H fun x H1 => ∃ k, TruV K x H1 k ∧ if k = true then Q x H1 else tb σ H1 Q
def tNotG (K : PySem.W.Frag) (ta : TE) : TE := fun σ H Q => ta σ H fun x H1 => ∃ k, TruV K x H1 k ∧ Q (.bl (!k)) H1
theorem tru_keep {pins : List (Addr × Obj)} {s : Shared} {σ : Sg} {H : Hp} {x : V} {v : Value} {k : Bool} {Q : Bool → Shared → Prop} (I : Inv X pins σ H s) (r : RelV x v) (t : TruV X.K x H k) (h : ∀ s', Inv X pins σ H s' → Q k s') : wpAny (model X.prog X.w) X.A (truthy v) Q X.xe s :=
  thn (tru_ok pins s σ H x v (fun b H' => b = k ∧ H' = H) I r ⟨k, t, rfl, rfl⟩) fun b s' ⟨H', I', e1, e2⟩ => by subst e1; subst e2; exact h s' I'
theorem pe_andG {a b : PySem.Expr} {rest : List PySem.Expr} {pos : Pos} {ta tb : TE} (ha : PE X a ta) (hb : PE X (.BoolOp .And (b :: rest) pos) tb) : PE X (.BoolOp .And (a :: b :: rest) pos) (tAndG X.K ta tb) := by
  intro pins s σ H Q I h
  refine BoolOp_and (thn (ha pins s σ H _ I h) fun v s1 ⟨x, H1, I1, r1, k, t, q1⟩ => ?_)
  refine tru_keep I1 r1 t fun s2 I2 => ?_
  cases k with
  | true => exact hb pins s2 σ H1 Q I2 q1
  | false => exact ⟨x, H1, I2, r1, q1⟩
theorem pe_orG {a b : PySem.Expr} {rest : List PySem.Expr} {pos : Pos} {ta tb : TE} (ha : PE X a ta) (hb : PE X (.BoolOp .Or (b :: rest) pos) tb) : PE X (.BoolOp .Or (a :: b :: rest) pos) (tOrG X.K ta tb) := by
  intro pins s σ H Q I h
  refine BoolOp_or (thn (ha pins s σ H _ I h) fun v s1 ⟨x, H1, I1, r1, k, t, q1⟩ => ?_)
  refine tru_keep I1 r1 t fun s2 I2 => ?_
  cases k with
  | false => exact hb pins s2 σ H1 Q I2 q1
  | true => exact ⟨x, H1, I2, r1, q1⟩
theorem pe_notG {a : PySem.Expr} {pos : Pos} {ta : TE} (ha : PE X a ta) : PE X (.UnaryOp .Not a pos) (tNotG X.K ta) := by
  intro pins s σ H Q I h
  refine UnaryOp_ (thn (ha pins s σ H _ I h) fun v s1 ⟨x, H1, I1, r1, k, t, q1⟩ => ?_)
  exact not_of (tru_keep I1 r1 t fun s2 I2 => ⟨.bl (!k), H1, I2, rfl, q1⟩)
theorem pw_of {op : BoolOp} {vs : List PySem.Expr} {pos : Pos} {t : TT} (h : PT X (.BoolOp op vs pos) t) : PW X (.BoolOp op vs pos) t := fun wh pins s σ H Q I q => by
  have := h pins s σ H Q I q
  exact this
theorem star_one {e : PySem.Expr} (es : List PySem.Expr) (h : noStar e = true) : starEach (e :: es) X.env = (false, eval e X.env) :: starEach es X.env := by
  cases e <;> first | rfl | (cases h; done)
theorem back_none (pos : Pos) : ∀ {l : Es} {es : List PySem.Expr}, chks N sc G l es = true → (backTo pos (starEach es X.env)).any (·.1) = false
  | .nil, [], _ => rfl
  | .cons c l, e :: es, h => by
    have h' : (noStar e && chk N sc G c e && chks N sc G l es) = true := h
    simp only [Bool.and_eq_true] at h'
    rw [star_one es h'.1.1]
    have ih := back_none pos (l := l) (es := es) h'.2
    show (backTo pos ((false, eval e X.env) :: starEach es X.env)).any (·.1) = false
    exact (show (false || (backTo pos (starEach es X.env)).any (·.1)) = false by rw [ih]; rfl)
  | .nil, _ :: _, h => absurd (show false = true from h) Bool.false_ne_true
  | .cons _ _, [], h => absurd (show false = true from h) Bool.false_ne_true
end
end Ng
end
section
set_option Elab.async false
set_option linter.all false
set_option maxRecDepth 100000
set_option maxHeartbeats 4000000
set_option autoImplicit false
namespace Ng
open PySem PySem.Spec PyProof.Rows L2
theorem vals_of : ∀ {vs : List V} {us : List Value}, vs.length = us.length → (∀ (k : Nat) u, us[k]? = some u → ∃ v, vs[k]? = some v ∧ RelV v u) → Vals vs us
  | [], [], _, _ => .nil
  | [], _ :: _, h, _ => by simp at h
  | _ :: _, [], h, _ => by simp at h
  | v :: vs, u :: us, h, k => by
    obtain ⟨v', e, r⟩ := k 0 u rfl
    simp at e; subst e
    exact .cons r (vals_of (by simpa using h) fun j u' hu => k (j + 1) u' (by simpa using hu))
section
variable {X : Cx}
theorem mm_boot (mx : Bool) : bootBuiltins (mmNm mx) = some (.builtin (if mx then "max" else "min")) := by cases mx <;> decide +kernel
theorem mm_dbg (mx : Bool) : (mmNm mx == ("__debug__" : Str)) = false ∧ mmNm mx ≠ "__name__" := by cases mx <;> decide +kernel
theorem pe_mxd (hc : X.calm = true) {mx : Bool} {y z : PySem.Expr} {p kp pos : Pos} {ta tb : TE} (hg : Gl X (mmNm mx)) (hm : X.mg (mmNm mx) = none) (ha : PE X y ta) (hb : PE X z tb) (hs : starEach [y] X.env = [(false, eval y X.env)]) :
    PE X (.Call (.Name (mmNm mx) p) [y] [⟨some "default", z, kp⟩] pos) (tOp (rD X.K (bestD mx)) ta tb) := by
  intro pins s σ H Q I q
  have hA : PA X [y] (tCons ta tNil) := pa_cons ha pa_nil (by rw [hs]; rfl)
  refine wpAny_Call_Name_kw (ld_blt I hg hm (mm_boot mx) ?_ (mm_dbg mx).2 (mm_dbg mx).1)
  refine callWith_kw (thn (hA pos pins s σ H (fun vs H1 => match vs with | [x] => tb σ H1 fun y H2 => rD X.K (bestD mx) x y H2 Q | _ => False) I q) fun us s1 ⟨vs, H1, I1, r1, q1⟩ => ?_) (by rw [hs]; rfl) (by rw [hs]; rfl) rfl rfl
  · obtain ⟨x, rfl⟩ : ∃ x, vs = [x] := by
      rcases vs with _ | ⟨x, _ | ⟨y, vs⟩⟩
      · exact q1.elim
      · exact ⟨x, rfl⟩
      · exact q1.elim
    refine kws_cons (thn (hb pins s1 σ H1 _ I1 q1) fun u s2 ⟨w2, H2, I2, r2, q2⟩ => kws_nil ?_)
    obtain ⟨v, rfl, rv⟩ := vals1 r1
    obtain ⟨m, h, dx, dy, d, h', w, rx, ry, e, c⟩ := q2
    have fin : ∀ z, RD X.K m H2 d z → h = h' → Q z H2 := fun z rz eh => by subst eh; exact c m z H2 Gr.refl w rz
    unfold bestD at e
    split at e
    · rename_i l hl el
      obtain ⟨pa, ws, rfl, hq, rw'⟩ := lst_of w rx hl el
      cases rv
      split at e
      · rename_i i r' ei
        simp at e
        obtain ⟨rfl, rfl⟩ := e
        have ev := ints_rel rw' ei
        subst ev
        cases mx with
        | true => exact maxcallD (l := i :: r') hc I2 hq r2 (fun z => by cases z) fun i1 r1 z => by cases z; exact fin _ (.int _) rfl
        | false => exact mincallD (l := i :: r') hc I2 hq r2 (fun z => by cases z) fun i1 r1 z => by cases z; exact fin _ (.int _) rfl
      · rename_i ei
        simp at e
        obtain ⟨rfl, rfl⟩ := e
        have ev := ints_rel rw' ei
        subst ev
        cases mx with
        | true => exact maxcallD (l := []) hc I2 hq r2 (fun _ => fin _ ry rfl) fun i1 r1 z => by cases z
        | false => exact mincallD (l := []) hc I2 hq r2 (fun _ => fin _ ry rfl) fun i1 r1 z => by cases z
      · cases e
    · cases e
theorem pe_lrg (hc : X.calm = true) {a : PySem.Expr} {p p2 pos pos2 : Pos} {ta : TE} (hg : Gl X "list") (hm : X.mg "list" = none) (hg2 : Gl X "range") (hm2 : X.mg "range" = none) (ha : PE X a ta) (hs : starEach [a] X.env = [(false, eval a X.env)]) :
    PE X (.Call (.Name "list" p) [.Call (.Name "range" p2) [a] [] pos2] [] pos) (fun σ H Q => ta σ H fun x H1 => ∃ j : Int, x = .int j ∧ -(2 ^ 62) ≤ j ∧ j ≤ 1000 ∧ ∀ l, H1 l = none → Q (.ref l) (upd H1 l (.lst ((List.range j.toNat).map fun (k : Nat) => V.int (0 + k))))) := by
  intro pins s σ H Q I q
  have hA : PA X [a] (tCons ta tNil) := pa_cons ha pa_nil (by rw [hs]; rfl)
  refine wpAny_Call_Name_kw (ld_blt I hg hm boot_list ?_)
  refine PyProof.Rows.callWith_type1 (Calls.spliced_cons (Call_ (ld_blt I hg2 hm2 boot_range (PyProof.Rows.callWith_type1 (thn (hA pos2 pins s σ H (fun vs H1 => match vs with | [x] => ∃ j : Int, x = .int j ∧ -(2 ^ 62) ≤ j ∧ j ≤ 1000 ∧ ∀ l, H1 l = none → Q (.ref l) (upd H1 l (.lst ((List.range j.toNat).map fun (k : Nat) => V.int (0 + k)))) | _ => False) I q) fun us s1 ⟨vs, H1, I1, r1, q1⟩ => ?_) hs rfl)))) rfl rfl
  rcases vs with _ | ⟨x, _ | ⟨y, vs⟩⟩
  · exact q1.elim
  · obtain ⟨j, rfl, b1, b2, q1⟩ := q1
    obtain ⟨u, rfl, t, rfl⟩ := vals1 r1
    refine call_range_1 (Calls.spliced_nil ?_)
    have sm : Builtin.Range.small 0 j 1 = true := small_one (by omega) (by omega) b1 (by omega)
    have hn : Builtin.Range.rangeSize 0 j 1 = ((j.toNat : Nat) : Int) := by rw [rangeSize_one]; split <;> omega
    have I2 : Inv X pins σ H1 { s1 with heap := s1.heap.push { cls := .type "range", data := .fields #[.int 0 s1.toks, .int j t, .int 1 (s1.toks + 1)] }, toks := s1.toks + 1 + 1 } := I1.kept fun b o e => Heap.get?_push_of_some _ e
    refine call_list_range (I.ok.hd hc) (IsRange.new ..) sm hn (by omega) fun g tk acc cc kp hS hi => ?_
    have fr := I2.hok.fresh (Nat.le_refl _)
    refine ⟨.ref _, _, I2.laid (t' := tk) (o := .lst ((List.range j.toNat).map fun (k : Nat) => V.int (0 + k))) kp (Nat.le_refl _) ⟨?_, acc.toList, cc, ?_, ?_⟩, rfl, q1 _ fr⟩
    · rw [List.length_map, List.length_range, sizeLine_eq]; omega
    · refine vals_of ?_ fun k v hk => ?_
      · rw [List.length_map, List.length_range]
        have := hi.1
        simpa using this.symm
      · obtain ⟨t', rfl⟩ := hi.2 k v (by simpa using hk)
        have hk' : k < j.toNat := by
          have := (List.getElem?_eq_some_iff.mp hk).1
          have h2 := hi.1
          simp at this; omega
        exact ⟨.int (0 + k), by rw [List.getElem?_map, List.getElem?_range hk']; rfl, t', by simp⟩
    · simpa using hS
  · exact q1.elim
end
def trsOf (K : PySem.W.Frag) (G : Gs) (cl : Cl) : List Str → Es → List (TE × TE)
  | x :: xs, .cons e l => (tC (.str x), TDE K (ev G cl e)) :: trsOf K G cl xs l
  | _, _ => []
def Es.len : Es → Nat
  | .nil => 0
  | .cons _ l => l.len + 1
theorem evs_len {G : Gs} {cl : Cl} {r : Ev} : ∀ {l : Es} {h h' : Hh} {ds : List D}, evs G cl l r h = .ok ds h' → ds.length = l.len
  | .nil, h, h', ds, e => by
    rw [evs] at e
    cases e; rfl
  | .cons e0 l, h, h', ds, e => by
    rw [evs] at e
    obtain ⟨d, h1, e1, e⟩ := Rs.bind_ok e
    obtain ⟨ds', h2, e2, e⟩ := Rs.bind_ok e
    cases e
    rw [List.length_cons, evs_len e2]; rfl
theorem pairs_read {K : PySem.W.Frag} {G : Gs} {cl : Cl} {r : Ev} {σ : Sg} : ∀ {ks : List Str} {l : Es} {h h' : Hh} {ds : List D} {m : List Addr} {H : Hp} {Q : List (V × V) → Hp → Prop}, evs G cl l r h = .ok ds h' → ks.length = l.len → Wd K m h H → RSt K m H r σ →
    (∀ m' us H', Gr K m H m' H' → Wd K m' h' H' → RDs K m' H' ds us → Q ((ks.map V.str).zip us) H') → tPairs (trsOf K G cl ks l) σ H Q
  | [], .nil, h, h', ds, m, H, Q, e, _, w, st, c => by
    rw [evs] at e
    cases e
    exact c m [] H .refl w .nil
  | x :: ks, .cons e0 l, h, h', ds, m, H, Q, e, hl, w, st, c => by
    rw [evs] at e
    obtain ⟨d, h1, e1, e⟩ := Rs.bind_ok e
    obtain ⟨ds', h2, e2, e⟩ := Rs.bind_ok e
    cases e
    refine ⟨m, r, h, d, h1, w, st, e1, fun m1 v H1 g1 w1 rv => ?_⟩
    exact pairs_read (ks := ks) (l := l) e2 (by simpa [Es.len] using hl) w1 (st.mono g1) fun m2 us H2 g2 w2 rus => c m2 (v :: us) H2 (g1.trans g2) w2 (.cons (rv.mono g2) rus)
  | [], .cons _ _, _, _, _, _, _, _, _, hl, _, _, _ => by simp [Es.len] at hl
  | _ :: _, .nil, _, _, _, _, _, _, _, hl, _, _, _ => by simp [Es.len] at hl
theorem zipK : ∀ (ks : List Str) (us : List V), (ks.map V.str).zip us = ((ks.map Sum.inr : List Key).zip us).map (fun kv => (kV kv.1, kv.2))
  | [], _ => rfl
  | _ :: _, [] => rfl
  | k :: ks, u :: us => by
    show (V.str k, u) :: (ks.map V.str).zip us = (kV (Sum.inr k), u) :: ((ks.map Sum.inr : List Key).zip us).map _
    rw [zipK ks us]; rfl
theorem nd_inr : ∀ {ks : List Str}, ks.Nodup → (ks.map Sum.inr : List Key).Nodup
  | [], _ => List.nodup_nil
  | k :: ks, h => by
    obtain ⟨h1, h2⟩ := List.nodup_cons.mp h
    show ((Sum.inr k : Key) :: ks.map Sum.inr).Nodup
    refine List.nodup_cons.mpr ⟨fun z => ?_, nd_inr h2⟩
    obtain ⟨a, ha, e⟩ := List.mem_map.mp z
    cases e
    exact h1 ha
theorem merge_nd : ∀ (kvs acc : List (Key × V)), ((acc ++ kvs).map (·.1)).Nodup → mergeK acc kvs = acc ++ kvs
  | [], acc, _ => by simp [mergeK]
  | p :: kvs, acc, h => by
    have hn : valV acc p.1 = none := by
      cases q : valV acc p.1 with
      | none => rfl
      | some v =>
        have hm := valV_in q
        rw [List.map_append, List.map_cons] at h
        have := (List.nodup_append.mp h).2.2 _ hm p.1 (by simp)
        exact absurd rfl this
    show mergeK (putK acc p.1 p.2) kvs = _
    rw [putK_new _ hn, merge_nd kvs (acc ++ [(p.1, p.2)]) (by simpa using h)]
    simp
theorem strKeys_of : ∀ {ks : List Str} {keys : List (Option PySem.Expr)}, strKeys ks keys = true → ks.length = keys.length ∧ keys.all (·.isSome) = true
  | [], [], _ => ⟨rfl, rfl⟩
  | x :: ks, k :: keys, h => by
    rcases k with _ | k
    · exact absurd (show false = true from h) Bool.false_ne_true
    cases k <;> first | exact absurd (show false = true from h) Bool.false_ne_true | skip
    rename_i cst j pos
    cases cst <;> first | exact absurd (show false = true from h) Bool.false_ne_true | skip
    rename_i y
    have h' : (x == y && strKeys ks keys) = true := h
    rw [Bool.and_eq_true] at h'
    obtain ⟨a, b⟩ := strKeys_of h'.2
    exact ⟨by simp [a], by simp [b]⟩
  | [], _ :: _, h => absurd (show false = true from h) Bool.false_ne_true
  | _ :: _, [], h => absurd (show false = true from h) Bool.false_ne_true
theorem chks_len {N : List Str} {sc : Scope} {G : Gs} : ∀ {l : Es} {es : List PySem.Expr}, chks N sc G l es = true → l.len = es.length
  | .nil, [], _ => rfl
  | .cons c l, e :: es, h => by
    have h' : (noStar e && chk N sc G c e && chks N sc G l es) = true := h
    simp only [Bool.and_eq_true] at h'
    show l.len + 1 = es.length + 1
    rw [chks_len h'.2]
  | .nil, _ :: _, h => absurd (show false = true from h) Bool.false_ne_true
  | .cons _ _, [], h => absurd (show false = true from h) Bool.false_ne_true
theorem pe_dispD {X : Cx} {N : List Str} {sc : Scope} {G : Gs} {cl : Cl} {ks : List Str} {vs : Es} {keys : List (Option PySem.Expr)} {vals : List PySem.Expr} {pos : Pos} (h0 : 0 < ks.length) (hk : strKeys ks keys = true) (hv : chks N sc G vs vals = true)
    (hp : PPs X pos keys vals (trsOf X.K G cl ks vs)) (f : Ev → Hh → Rs D) (hf : ∀ r h, f r h = (evs G cl vs r (h ++ [.dct []])).bind fun ds h' => dispD ks ds h.length h') : PE X (.Dict keys vals pos) (TDE X.K f) := by
  intro pins s σ H Q I ⟨m, r, h, d, h', w, st, e, c⟩
  rw [hf] at e
  obtain ⟨ds, h1, e1, e⟩ := Rs.bind_ok e
  unfold dispD at e
  split at e
  · rename_i en
    split at e
    · rename_i hz
      simp at e
      obtain ⟨rfl, rfl⟩ := e
      obtain ⟨l1, l2⟩ := strKeys_of hk
      have l3 := chks_len hv
      have l4 := evs_len e1
      refine pe_disp hp l2 (by omega) (fun z => by rw [z, List.length_nil] at l1; omega) (by omega) pins s σ H Q I fun p hp0 => ?_
      obtain ⟨w2, g2⟩ := w.objNew (o := .dct []) (u := .dK []) hp0 fun _ => ⟨[], upd_same, rfl, .nil⟩
      refine pairs_read e1 (by omega) w2 (st.mono g2) fun m3 us H3 g3 w3 rus => ?_
      have hp3 : m3[h.length]? = some p := g3.pre _ _ (by rw [← w.len]; simp)
      obtain ⟨us0, q1, q2, q3⟩ := w3.ob h.length _ p en hp3
      have e0 : us0 = [] := by
        cases us0 with
        | nil => rfl
        | cons a b => simp at q2
      subst e0
      have l5 := rus.length
      refine ⟨q1, (ks.map Sum.inr).zip us, ?_, ?_, ?_⟩
      · exact zipK ks us
      · simp; omega
      · have nd : (((ks.map Sum.inr : List Key).zip us).map Prod.fst).Nodup := by
          rw [List.map_fst_zip (by simp; omega)]
          exact nd_inr hz.2.1
        rw [merge_nd _ [] (by rw [List.nil_append]; exact nd), List.nil_append]
        obtain ⟨w4, g4⟩ := w3.objSet (o' := .dct ((ks.map Sum.inr).zip ds)) (u := .dK ((ks.map Sum.inr).zip us)) en rfl hp3 fun g => ⟨_, upd_same, by
          rw [List.map_fst_zip (by simp; omega), List.map_fst_zip (by simp; omega)], by
          rw [List.map_snd_zip (by simp; omega), List.map_snd_zip (by simp; omega)]
          exact rus.mono g⟩
        exact c m3 _ _ ((g2.trans g3).trans g4) w4 (.ref hp3)
    · cases e
  · cases e
section
variable {X : Cx}
theorem arr_ins (l : List Value) (k : Nat) (y : Value) : (l.toArray.extract 0 k).push y ++ l.toArray.extract k = (l.take k ++ y :: l.drop k).toArray := PySem.W.kl_ins_eq l k y
def rInsert : V → List V → Hp → VK → Prop := fun x vs H Q => ∃ l xs i y, x = .ref l ∧ vs = [.int i, y] ∧ H l = some (.lst xs) ∧ 0 ≤ i ∧ i ≤ (xs.length : Int) ∧ xs.length < 1000000 ∧ Q .non (upd H l (.lst (xs.take i.toNat ++ y :: xs.drop i.toNat)))
theorem Vals.take' {k : Nat} : ∀ {vs : List V} {us : List Value}, Vals vs us → ∀ k : Nat, Vals (vs.take k) (us.take k)
  | _, _, .nil, k => by cases k <;> exact .nil
  | _, _, .cons r rs, 0 => .nil
  | _, _, .cons r rs, k + 1 => .cons r (Vals.take' (k := k) rs k)
theorem Vals.drop' {k : Nat} : ∀ {vs : List V} {us : List Value}, Vals vs us → ∀ k : Nat, Vals (vs.drop k) (us.drop k)
  | _, _, .nil, k => by cases k <;> exact .nil
  | _, _, .cons r rs, 0 => .cons r rs
  | _, _, .cons r rs, k + 1 => Vals.drop' (k := k) rs k
theorem mt_insert : MtM X "list.insert" rInsert := by
  intro pins s σ H x vs v us Q I rx rv h
  obtain ⟨l, xs, i, y, rfl, rfl, hH, h0, h1, hz, q⟩ := h
  cases rx
  cases rv with
  | cons r1 rv =>
    cases rv with
    | cons r2 rv =>
      cases rv
      obtain ⟨tk, rfl⟩ := r1
      rename_i u
      obtain ⟨z, its, n, r, hl, e⟩ := I.lstM hH
      have hfit : Builtin.List.listFitsIndex i = true := by
        unfold Builtin.List.listFitsIndex
        rw [Bool.and_eq_true, decide_eq_true_eq, decide_eq_true_eq]
        omega
      refine call_meets PySem.F.slot_list_insert ⟨_, e, rfl⟩ PySem.F.entry_list_insert (PySem.F.args_list_insert_3 _ _ _) (PySem.AutoSeq1.list_insert_list_int_val_1 l its.toArray n i tk u (by simp [hfit]) (by rw [List.size_toArray]; omega)) ⟨e, ?_⟩
      refine ⟨.non, _, I.lset (its' := its.take i.toNat ++ u :: its.drop i.toNat) hH e ?_ ((Vals.take' (k := 0) r _).append (.cons r2 (Vals.drop' (k := 0) r _))) ?_, rfl, q⟩
      · show (its.toArray.extract 0 (if i < 0 then (i + ((its.toArray.size : Nat) : Int)).toNat else min i.toNat its.toArray.size)).push u ++ its.toArray.extract (if i < 0 then (i + ((its.toArray.size : Nat) : Int)).toNat else min i.toNat its.toArray.size) = _
        have e1 : (if i < 0 then (i + ((its.toArray.size : Nat) : Int)).toNat else min i.toNat its.toArray.size) = i.toNat := by
          rw [if_neg (show ¬ i < 0 by omega), List.size_toArray, Nat.min_eq_left (by omega)]
        rw [e1, arr_ins]
      · rw [List.length_append, List.length_cons, List.length_take, List.length_drop]
        have : (1000000 : Nat) ≤ sizeLine := by decide
        omega
end
end Ng
end
section
set_option Elab.async false
set_option linter.all false
set_option maxRecDepth 100000
set_option maxHeartbeats 4000000
set_option autoImplicit false
namespace Ng
open PySem PySem.Spec PyProof.Rows L2
def clStep (env : Env) (p : Str × NameKind) (cs : List (Str × Addr)) : List (Str × Addr) := if (p.2 == .free) = true then (match env.cells.lookup p.1 with | some c => (p.1, c) :: cs | none => cs) else cs
def clOf (scope : Scope) (env : Env) : List (Str × Addr) := scope.names.foldl (fun cs p => clStep env p cs) []
theorem forIn_pure {f : Str × NameKind → List (Str × Addr) → Sem (ForInStep (List (Str × Addr)))} {g : Str × NameKind → List (Str × Addr) → List (Str × Addr)} : ∀ (l : List (Str × NameKind)) (acc : List (Str × Addr)), (∀ p ∈ l, ∀ cs, f p cs = pure (.yield (g p cs))) → forIn l acc f = pure (l.foldl (fun cs p => g p cs) acc)
  | [], acc, _ => rfl
  | p :: l, acc, h => by
    rw [List.forIn_cons, h p List.mem_cons_self]
    show (forIn l (g p acc) f) = _
    rw [forIn_pure l (g p acc) fun q hq => h q (List.mem_cons_of_mem _ hq)]
    rfl
theorem closure_is {scope : Scope} {env : Env} (h : ∀ p ∈ scope.names, p.2 = .free → ∃ c, env.cells.lookup p.1 = some c) : closureFor scope env = pure (clOf scope env) := by
  simp only [closureFor]
  rw [forIn_pure (g := clStep env) scope.names [] (fun p hp cs => by
    obtain ⟨n, k⟩ := p
    cases hk : (k == NameKind.free) with
    | false => (simp only [hk, clStep, Bool.false_eq_true, if_false] <;> rfl)
    | true =>
      obtain ⟨c, hc⟩ := h (n, k) hp (by simpa using hk)
      (simp only [hk, clStep, if_true, hc, cellOf] <;> rfl))]
  rfl
theorem cl_mem {env : Env} : ∀ (l : List (Str × NameKind)) (acc : List (Str × Addr)), (∀ q ∈ acc, env.cells.lookup q.1 = some q.2) → ∀ q ∈ l.foldl (fun cs p => clStep env p cs) acc, env.cells.lookup q.1 = some q.2
  | [], acc, h => h
  | p :: l, acc, h => cl_mem l (clStep env p acc) fun q hq => by
    unfold clStep at hq
    split at hq
    · split at hq
      · rename_i c hc
        rcases List.mem_cons.mp hq with rfl | hq
        · exact hc
        · exact h q hq
      · exact h q hq
    · exact h q hq
theorem cl_sub {env : Env} : ∀ (l : List (Str × NameKind)) (acc : List (Str × Addr)) (q : Str × Addr), q ∈ acc → q ∈ l.foldl (fun cs p => clStep env p cs) acc
  | [], acc, q, h => h
  | p :: l, acc, q, h => cl_sub l (clStep env p acc) q (by
    unfold clStep
    split
    · split
      · exact List.mem_cons_of_mem _ h
      · exact h
    · exact h)
theorem cl_has {env : Env} : ∀ (l : List (Str × NameKind)) (acc : List (Str × Addr)) (n : Str) (c : Addr), (n, NameKind.free) ∈ l → env.cells.lookup n = some c → (n, c) ∈ l.foldl (fun cs p => clStep env p cs) acc
  | [], _, _, _, h, _ => by cases h
  | p :: l, acc, n, c, h, hc => by
    rcases List.mem_cons.mp h with rfl | h
    · refine cl_sub l (clStep env (n, NameKind.free) acc) (n, c) ?_
      unfold clStep
      rw [if_pos (by rfl)]
      simp only [hc]
      exact List.mem_cons_self
    · exact cl_has l _ n c h hc
theorem lookup_some_of_mem {α : Type} {n : Str} {c : α} : ∀ {l : List (Str × α)}, (n, c) ∈ l → ∃ c', l.lookup n = some c'
  | [], h => by cases h
  | (m, d) :: l, h => by
    cases e : n == m with
    | true => exact ⟨d, by simp [List.lookup_cons, e]⟩
    | false =>
      rcases List.mem_cons.mp h with z | z
      · cases z; simp at e
      · obtain ⟨c', hc'⟩ := lookup_some_of_mem z
        exact ⟨c', by simp only [List.lookup_cons, e]; exact hc'⟩
theorem clOf_lookup {scope : Scope} {env : Env} {n : Str} {c : Addr} (h : (clOf scope env).lookup n = some c) : env.cells.lookup n = some c :=
  cl_mem scope.names [] (fun _ hq => by cases hq) (n, c) (PySem.mem_of_lookup h)
theorem clOf_has {scope : Scope} {env : Env} {n : Str} {c : Addr} (h : (n, NameKind.free) ∈ scope.names) (hc : env.cells.lookup n = some c) : (clOf scope env).lookup n = some c := by
  obtain ⟨c', hc'⟩ := lookup_some_of_mem (cl_has scope.names [] n c h hc)
  have := clOf_lookup hc'
  rw [hc] at this; cases this
  exact hc'
theorem relab_lookup {scope sc : Scope} {x : Str} {k' : NameKind} (h : (relab scope sc).names.lookup x = some k') : ∃ k, scope.names.lookup x = some k ∧ (k' = k ∨ (k = .free ∧ k' = .cell)) := by
  unfold relab at h
  have go : ∀ (l : List (Str × NameKind)), (l.map fun (n, k) => if (k == .free && sc.kind == .function && sc.names.lookup n == some .cell) then (n, NameKind.cell) else (n, k)).lookup x = some k' → ∃ k, l.lookup x = some k ∧ (k' = k ∨ (k = .free ∧ k' = .cell)) := by
    intro l
    induction l with
    | nil => intro h; simp at h
    | cons p l ih =>
      intro h
      obtain ⟨n, k⟩ := p
      cases e : x == n with
      | true =>
        refine ⟨k, by simp [List.lookup_cons, e], ?_⟩
        simp only [List.map_cons] at h
        by_cases hc : (k == .free && sc.kind == .function && sc.names.lookup n == some .cell) = true
        · rw [if_pos hc] at h
          simp only [List.lookup_cons, e] at h
          simp only [Bool.and_eq_true, beq_iff_eq] at hc
          exact .inr ⟨hc.1.1, (Option.some.inj h).symm⟩
        · rw [if_neg hc] at h
          simp only [List.lookup_cons, e] at h
          exact .inl (Option.some.inj h).symm
      | false =>
        simp only [List.map_cons] at h
        have h' : (l.map fun (n, k) => if (k == .free && sc.kind == .function && sc.names.lookup n == some .cell) then (n, NameKind.cell) else (n, k)).lookup x = some k' := by
          by_cases hc : (k == .free && sc.kind == .function && sc.names.lookup n == some .cell) = true
          · rw [if_pos hc] at h; simp only [List.lookup_cons, e] at h; exact h
          · rw [if_neg hc] at h; simp only [List.lookup_cons, e] at h; exact h
        obtain ⟨k2, e2, e3⟩ := ih h'
        exact ⟨k2, by simp only [List.lookup_cons, e]; exact e2, e3⟩
  exact go scope.names h
theorem relab_cell {scope sc : Scope} {x : Str} (h : scope.names.lookup x = some .free) (hk : sc.kind = .function) (hc : sc.names.lookup x = some .cell) : (relab scope sc).names.lookup x = some .cell := by
  unfold relab
  have go : ∀ (l : List (Str × NameKind)), l.lookup x = some .free → (l.map fun (n, k) => if (k == .free && sc.kind == .function && sc.names.lookup n == some .cell) then (n, NameKind.cell) else (n, k)).lookup x = some .cell := by
    intro l
    induction l with
    | nil => intro h; simp at h
    | cons p l ih =>
      intro h
      obtain ⟨n, k⟩ := p
      cases e : x == n with
      | true =>
        have ex : x = n := by simpa using e
        subst ex
        simp only [List.lookup_cons, e] at h
        cases h
        simp [List.map_cons, hk, hc]
      | false =>
        simp only [List.lookup_cons, e] at h
        simp only [List.map_cons]
        by_cases hc : (k == .free && sc.kind == .function && sc.names.lookup n == some .cell) = true
        · rw [if_pos hc]; simp only [List.lookup_cons, e]; exact ih h
        · rw [if_neg hc]; simp only [List.lookup_cons, e]; exact ih h
  exact go scope.names h
theorem nodupB_ok : ∀ {l : List Str}, nodupB l = true → l.Nodup
  | [], _ => List.nodup_nil
  | x :: l, h => by
    have h' : (!l.contains x && nodupB l) = true := h
    simp only [Bool.and_eq_true, Bool.not_eq_true'] at h'
    refine List.nodup_cons.mpr ⟨fun hx => ?_, nodupB_ok h'.2⟩
    have := h'.1
    simp [hx] at this
structure ScOk (scope sc : Scope) : Prop where
  kind : scope.kind = .function
  out : sc.kind = .function
  nd : (scope.names.map (·.1)).Nodup
  loc : ∀ p ∈ scope.names, p.2 = .local → scope.names.lookup p.1 = some .local
  free : ∀ p ∈ scope.names, p.2 = .free → sc.names.lookup p.1 = some .cell
theorem scOk_of {scope sc : Scope} (h : scOk scope sc = true) : ScOk scope sc := by
  unfold scOk at h
  simp only [Bool.and_eq_true, beq_iff_eq, List.all_eq_true, Bool.or_eq_true, Bool.not_eq_true'] at h
  obtain ⟨⟨⟨h1, h2⟩, h0⟩, h3⟩ := h
  refine ⟨h1, h2, nodupB_ok h0, fun p hp e => ?_, fun p hp e => ?_⟩
  · rcases (h3 p hp).1 with z | z
    · rw [e] at z; simp at z
    · simpa using z
  · rcases (h3 p hp).2 with z | z
    · rw [e] at z; simp at z
    · simpa using z
theorem lookup_nd {α : Type} {x : Str} {k : α} : ∀ {l : List (Str × α)}, (l.map (·.1)).Nodup → (x, k) ∈ l → l.lookup x = some k
  | [], _, h => by cases h
  | (y, j) :: l, nd, h => by
    rw [List.map_cons, List.nodup_cons] at nd
    rcases List.mem_cons.mp h with e | h2
    · cases e; simp [List.lookup_cons]
    · have ne : (x == y) = false := by
        rw [beq_eq_false_iff_ne]
        rintro rfl
        exact nd.1 (List.mem_map.mpr ⟨(x, k), h2, rfl⟩)
      rw [List.lookup_cons, ne]
      exact lookup_nd nd.2 h2
theorem relab_own {scope : Scope} {env : Env} {x : Str} (h : scope.names.lookup x = some .cell) : (relabel scope env).names.lookup x = some .cell := by
  unfold relabel
  have go : ∀ (l : List (Str × NameKind)), l.lookup x = some .cell → (l.map fun (n, k) => if (k == .free && env.scope.kind == .function && env.kindOf n == some .cell) then (n, NameKind.cell) else (n, k)).lookup x = some .cell := by
    intro l
    induction l with
    | nil => intro h; simp at h
    | cons p l ih =>
      intro h
      obtain ⟨n, k⟩ := p
      cases e : x == n with
      | true =>
        simp only [List.lookup_cons, e] at h
        cases h
        simp [List.map_cons, List.lookup_cons, e]
      | false =>
        simp only [List.lookup_cons, e] at h
        simp only [List.map_cons]
        by_cases hc : (k == .free && env.scope.kind == .function && env.kindOf n == some .cell) = true
        · rw [if_pos hc]; simp only [List.lookup_cons, e]; exact ih h
        · rw [if_neg hc]; simp only [List.lookup_cons, e]; exact ih h
  exact go scope.names h
theorem cellsFrom_app : ∀ (names : List (Str × NameKind)) (n : Nat) (acc : List (Str × Addr)), cellsFrom n names acc = cellsFrom n names [] ++ acc
  | [], _, _ => rfl
  | (x, k) :: r, n, acc => by
    unfold cellsFrom
    split
    · rw [cellsFrom_app r (n + 1) ((x, n) :: acc), cellsFrom_app r (n + 1) [(x, n)]]; simp
    · exact cellsFrom_app r n acc
theorem cellsFrom_mem : ∀ (names : List (Str × NameKind)) (n : Nat) (x : Str) (c : Addr), (x, c) ∈ cellsFrom n names [] → (x, NameKind.cell) ∈ names
  | [], _, _, _, h => by cases h
  | (y, k) :: r, n, x, c, h => by
    unfold cellsFrom at h
    split at h
    · rename_i hk
      rw [cellsFrom_app] at h
      rcases List.mem_append.mp h with h | h
      · exact List.mem_cons_of_mem _ (cellsFrom_mem r _ x c h)
      · have e : (x, c) = (y, n) := by simpa using h
        cases e
        have hk' : k = .cell := by simpa using hk
        subst hk'
        exact List.mem_cons_self
    · exact List.mem_cons_of_mem _ (cellsFrom_mem r _ x c h)
def bcs (scope : Scope) (env : Env) (C : Addr) : List (Str × Addr) := cellsFrom (C + 1) scope.names (clOf scope env)
structure BCs (scope : Scope) (env : Env) (C : Addr) (h1 : Heap) : Prop where
  old : ∀ x, (x, NameKind.free) ∈ scope.names → (bcs scope env C).lookup x = (clOf scope env).lookup x
  new : ∀ x, scope.names.lookup x = some .cell → ∃ c, (bcs scope env C).lookup x = some c
  inv : ∀ x c, (bcs scope env C).lookup x = some c → (clOf scope env).lookup x = some c ∨ (C < c ∧ h1.IsCell c none ∧ ∀ y, (bcs scope env C).lookup y = some c → C < c → x = y)
  cellNew : ∀ x c, scope.names.lookup x = some .cell → (bcs scope env C).lookup x = some c → C < c
theorem bcs_ok {scope sc : Scope} {env : Env} {C : Addr} {h1 : Heap} (S : ScOk scope sc) (hlow : ∀ x c, env.cells.lookup x = some c → c < C) (ok : CellsOk h1 (C + 1) (cellsFrom (C + 1) scope.names [])) : BCs scope env C h1 := by
  have spl : ∀ x, (bcs scope env C).lookup x = ((cellsFrom (C + 1) scope.names []).lookup x).or ((clOf scope env).lookup x) := fun x => by
    unfold bcs; rw [cellsFrom_app, List.lookup_append]
  have inv : ∀ x c, (bcs scope env C).lookup x = some c → (cellsFrom (C + 1) scope.names []).lookup x = some c ∨ ((cellsFrom (C + 1) scope.names []).lookup x = none ∧ (clOf scope env).lookup x = some c) := fun x c e => by
    rw [spl] at e
    cases q : (cellsFrom (C + 1) scope.names []).lookup x with
    | none => rw [q] at e; exact .inr ⟨rfl, e⟩
    | some c' => rw [q] at e; exact .inl e
  refine ⟨fun x hx => ?_, fun x hx => ?_, fun x c e => ?_, fun x c hx e => ?_⟩
  · rw [spl]
    cases q : (cellsFrom (C + 1) scope.names []).lookup x with
    | none => rfl
    | some c =>
      have z := lookup_nd S.nd (cellsFrom_mem _ _ _ _ (PySem.mem_of_lookup q))
      rw [lookup_nd S.nd hx] at z; cases z
  · have q := PySem.W.cellsFrom_some scope.names (C + 1) [] (.inl hx)
    obtain ⟨c, hc⟩ := Option.isSome_iff_exists.mp q
    exact ⟨c, by rw [spl, hc]; rfl⟩
  · rcases inv x c e with q | ⟨_, q⟩
    · have m := ok.empty x c (PySem.mem_of_lookup q)
      refine .inr ⟨m.2, m.1, fun y ey _ => ?_⟩
      rcases inv y c ey with q' | ⟨_, q'⟩
      · exact name_of_addr ok.apart (PySem.mem_of_lookup q) (PySem.mem_of_lookup q')
      · exact absurd (hlow y c (clOf_lookup q')) (Nat.not_lt.mpr (Nat.le_of_lt m.2))
    · exact .inl q
  · rcases inv x c e with q | ⟨q0, q⟩
    · exact (ok.empty x c (PySem.mem_of_lookup q)).2
    · have q2 := PySem.W.cellsFrom_some scope.names (C + 1) [] (.inl hx)
      rw [q0] at q2; cases q2
def blkX (X : Cx) (N' : List Str) (scope : Scope) (C : Addr) (s3 : Shared) (H3 : Hp) (fp : List Addr) : Cx :=
  { X with N := N', s₀ := s3, H₀ := H3, env := compEnvC scope (bcs scope X.env C) C X.env, outer := X.stack, stack := X.stack, ex := fp, fn := fun x => scope.names.lookup x == some .cell, pn := [], xe := fun _ _ => False }
def blkS (N' : List Str) (cap : List Nat) (σ : Sg) : Sg := List.replicate (N'.length - cap.length) none ++ cap.map fun (i : Nat) => (match σ[i]? with | some x => x | none => none)
section
variable {X : Cx} {pins : List (Addr × Obj)} {σ : Sg} {H3 : Hp} {s3 : Shared} {N' : List Str} {scope : Scope} {fp : List Addr} {cap : List Nat}
theorem blk_start (I : Inv X pins σ H3 s3) (S : ScOk scope X.env.scope) (hcap : cap.length ≤ N'.length) (hN : (N'.drop (N'.length - cap.length)).map some = cap.map (fun (i : Nat) => X.N[i]?)) (hfr : ∀ x ∈ N'.drop (N'.length - cap.length), scope.names.lookup x = some .free)
    {h1 : Heap} {tk : Nat} {m : Str → Option Value} (hns : h1.Ns s3.heap.objs.size m) (keep : ∀ b o, s3.heap.get? b = some o → h1.get? b = some o) (B : BCs scope X.env s3.heap.objs.size h1)
    (hfp : ∀ b ∈ fp, FpOk X pins H3 b) (hob : ∀ b ∈ fp, b < s3.heap.objs.size) (hfb : ∀ b ∈ fp, ∀ o, X.base.get? b ≠ some o) : Inv (blkX X N' scope s3.heap.objs.size s3 H3 fp) [] (blkS N' cap σ) H3 { s3 with heap := h1, toks := tk } := by
  have stkN : ∀ b, b ≠ X.env.locals → b ∉ X.fs → b ∉ frs X.stack := fun b h1 h2 hb => (List.mem_cons.mp (I.stkSub b hb)).elim h1 h2
  have kd : X.env.scope.kind = .function := I.ok.kind
  have cellFree : ∀ x, (relab scope X.env.scope).names.lookup x = some .cell ∨ (relab scope X.env.scope).names.lookup x = some .free → (x, NameKind.free) ∈ scope.names ∨ scope.names.lookup x = some .cell := fun x hx => by
    have : ∃ k', (k' = NameKind.cell ∨ k' = .free) ∧ (relab scope X.env.scope).names.lookup x = some k' := by
      rcases hx with h | h
      · exact ⟨_, .inl rfl, h⟩
      · exact ⟨_, .inr rfl, h⟩
    obtain ⟨k', hk', h⟩ := this
    obtain ⟨k, e1, e2⟩ := relab_lookup h
    have hm := PySem.mem_of_lookup e1
    rcases e2 with rfl | ⟨rfl, _⟩
    · rcases hk' with rfl | rfl
      · exact .inr e1
      · exact .inl hm
    · exact .inl hm
  have lowC : ∀ x c, X.env.cells.lookup x = some c → c < s3.heap.objs.size := fun x c e => let ⟨_, q⟩ := I.cell x c e; q.lt
  have hasC : ∀ x, (x, NameKind.free) ∈ scope.names → ∃ c, X.env.cells.lookup x = some c := fun x hx => I.ok.has x (.inl (S.free _ hx rfl))
  refine ⟨⟨I.ok.mod, by show (relabel scope X.env).kind = _; exact S.kind, I.ok.glob, I.ok.blt, Nat.le_refl _, fun x y c h1 h2 => ?_, fun x hx => ?_, fun x c h e => Nat.le_of_lt (B.cellNew x c (beq_iff_eq.mp h) e), I.ok.hd, I.ok.frames, .inl rfl, fun b hb => ⟨Nat.ne_of_lt (hob b hb), fun x c e => ?_⟩, I.bs, Nat.le_trans I.ok.bsz I.sz, fun b o e hb => hfb b hb o e, fun b hb => stkN b (hfp b hb).2.1 (hfp b hb).2.2.1, I.stack, I.stkFree⟩,
    rfl, I.bare, Un.kept keep, ⟨m, hns, fun i x v e1 e2 e3 => ?_⟩, fun x c e => ?_, I.hok.fresh (Nat.le_refl _), fun x c e => ?_, fun p hp => absurd (show p ∈ ([] : List (Addr × Obj)) from hp) (by simp), I.hok.kept keep, ?_⟩
  · rcases B.inv x c h1 with a | ⟨a1, _, a3⟩
    · rcases B.inv y c h2 with b | ⟨b1, _, _⟩
      · exact I.ok.inj x y c (clOf_lookup a) (clOf_lookup b)
      · exact absurd (lowC x c (clOf_lookup a)) (Nat.not_lt.mpr (Nat.le_of_lt b1))
    · exact a3 y h2 a1
  · rcases cellFree x hx with hf | hf
    · obtain ⟨c, hc⟩ := hasC x hf
      exact ⟨c, (B.old x hf).trans (clOf_has hf hc)⟩
    · exact B.new x hf
  · rcases B.inv x c e with a | ⟨a1, _, _⟩
    · exact (hfp b hb).2.2.2.2.1 x c (clOf_lookup a)
    · exact Nat.ne_of_gt (Nat.lt_trans (hob b hb) a1)
  · -- a captured name
    have hi : ¬ i < N'.length - cap.length := fun hi => by
      unfold blkS at e2
      rw [List.getElem?_append_left (by simpa using hi), List.getElem?_replicate] at e2
      split at e2 <;> cases e2
    have e1' : N'[i]? = some x := e1
    have hiN : i < N'.length := (List.getElem?_eq_some_iff.mp e1').1
    unfold blkS at e2
    rw [List.getElem?_append_right (by simpa using hi), List.length_replicate, List.getElem?_map] at e2
    have hd : (N'.drop (N'.length - cap.length))[i - (N'.length - cap.length)]? = some x := by
      rw [List.getElem?_drop]
      rw [show N'.length - cap.length + (i - (N'.length - cap.length)) = i by omega]
      exact e1'
    cases ec : cap[i - (N'.length - cap.length)]? with
    | none => rw [ec] at e2; cases e2
    | some j =>
      rw [ec] at e2
      have hj : X.N[j]? = some x := by
        have z := congrArg (fun l => l[i - (N'.length - cap.length)]?) hN
        simp only [List.getElem?_map, hd, ec, Option.map_some] at z
        exact (Option.some.inj z).symm
      have hσ : σ[j]? = some (some v) := by
        have e2' : (match σ[j]? with | some x => x | none => none) = some v := Option.some.inj e2
        cases q : σ[j]? with
        | none => rw [q] at e2'; cases e2'
        | some y => rw [q] at e2'; exact congrArg some e2'
      have hxf : scope.names.lookup x = some .free := hfr x (List.mem_of_getElem? hd)
      have hxc := S.free _ (PySem.mem_of_lookup hxf) rfl
      obtain ⟨m0, hn0, hl0⟩ := I.loc
      obtain ⟨u, ru, l0⟩ := hl0 j x v hj hσ (.inr (.inl hxc))
      refine ⟨u, ru, .inr ⟨.inl ?_, ?_⟩⟩
      · show (relabel scope X.env).names.lookup x = some .cell
        exact relab_cell (sc := X.env.scope) hxf kd hxc
      · rcases l0 with ⟨z, _⟩ | ⟨_, c, hc, o, ho, hd'⟩
        · have z' : X.env.scope.names.lookup x = some .local := z
          rw [hxc] at z'; cases z'
        · exact ⟨c, (B.old x (PySem.mem_of_lookup hxf)).trans (clOf_has (PySem.mem_of_lookup hxf) hc), o, keep c o ho, hd'⟩
  · rcases B.inv x c e with a | ⟨_, a2, _⟩
    · obtain ⟨v, o, ho, hd⟩ := I.cell x c (clOf_lookup a)
      exact ⟨v, o, keep c o ho, hd⟩
    · exact ⟨_, a2⟩
  · rcases B.inv x c e with a | ⟨a1, _, _⟩
    · exact I.freeC x c (clOf_lookup a)
    · exact I.hok.fresh (Nat.le_of_lt a1)
  · unfold blkS
    show _ = N'.length
    rw [List.length_append, List.length_replicate, List.length_map]
    omega
end
/-- a block's names are laid, its cells too -/
theorem wpAny_newBlockEnv {M : Model} {A : Around} {E : Value → Shared → Prop} {scope : Scope} {env : Env} {s : Shared} {Q : Env → Shared → Prop}
    (h : ∀ h1 : Heap, h1.Ns s.heap.objs.size (fun _ => none) → (∀ b o, s.heap.get? b = some o → h1.get? b = some o) → CellsOk h1 (s.heap.objs.size + 1) (cellsFrom (s.heap.objs.size + 1) scope.names []) →
      Q (newEnv scope s.heap.objs.size env.globals (bcs scope env s.heap.objs.size) env.qual none .none (some env) builtinsNs) { s with heap := h1 }) :
    wpAny M A (newFunctionEnv scope env.globals (clOf scope env) [] env.qual none .none (some env)) Q E s := by
  simp only [newFunctionEnv, Option.isSome_some, if_true]
  refine wpAny_bind (wpAny_alloc ?_)
  refine wpAny_bind (wpAny_layCells _ (fun name kind cells => by cases hkc : kind == NameKind.cell <;> simp [hkc]) _ _ _ _ ?_)
  have hsz : (s.heap.push { cls := .type "dict", data := .dict #[] }).objs.size = s.heap.objs.size + 1 := Heap.size_push ..
  have ok := cellsFrom_ok scope.names (s.heap.push { cls := .type "dict", data := .dict #[] }) (s.heap.objs.size + 1) [] ⟨fun _ _ hm => (nomatch hm), List.Pairwise.nil⟩ (by rw [hsz]; exact Nat.le_refl _)
  rw [hsz] at ok
  rw [show ({ s with heap := s.heap.push { cls := .type "dict", data := .dict #[] } } : Shared).heap.objs.size = s.heap.objs.size + 1 from hsz]
  refine wpAny_bind (wpAny_of_eq (List.forIn_nil ..) (wpAny_pure ?_))
  exact h _ ((Heap.Ns.new s.heap (.type "dict")).keeps (pushCells_keeps _ _)) (fun b o e => pushCells_keeps _ _ b o (Heap.get?_push_of_some _ e)) ok
def testsOf (ifs : List PySem.Expr) (env : Env) (b : Bool) : Sem Bool := forIn ifs b fun c r => if r = true then do let ok ← isTrue c env (eval c env); pure (ForInStep.yield ok) else pure (ForInStep.yield r)
theorem comp_loop {elt tg iter : PySem.Expr} {ifs : List PySem.Expr} {scope : Scope} {pos : Pos} {it acc : Value} {env : Env} {P : Program} {w : World} {A : Around} {R : Result → Shared → Prop} {s : Shared} (J : Nat → Shared → Prop)
    (turn : ∀ k s, J k s → wpAny (model P w) A (pyNext it) (fun r s1 => match r with
      | none => R (.ok .next) s1
      | some v => wpAny (model P w) A (letOwnedTupleGo tg it v) (fun _ s2 => wpAny (model P w) A (assign tg env v) (fun _ s3 => wpAny (model P w) A (testsOf ifs env true) (fun ok s4 =>
          if ok = true then wpAny (model P w) A (eval elt env) (fun x s5 => wpAny (model P w) A (call (.builtin "list.append") [acc, x]) (fun _ s6 => ∃ k', k' < k ∧ J k' s6) nev s5) nev s4
          else ∃ k', k' < k ∧ J k' s4) nev s3) nev s2) nev s1) nev s)
    (k : Nat) (h : J k s) : codeAny (model P w) A (.compLoop (.ListComp elt [⟨tg, iter, ifs, 0⟩] scope pos) 0 it acc env) R s := by
  refine codeAny_loop (I := J) rfl (turn := fun k s hk => ?_) k h
  show wpAny _ A (Sem.onRaise (compTurn (.ListComp elt [⟨tg, iter, ifs, 0⟩] scope pos) 0 it acc env) (fun x => do noteFrame x env; theTreesLotGoes x)) _ _ s
  refine wpAny_noted ?_
  rw [compTurn_list]
  have no : ∀ {E : Value → Shared → Prop} (e : Value) (s : Shared), nev e s → E e s := fun _ _ f => f.elim
  refine wpAny_bind (wpAny_standAt (wpAny_bind (wpAny_mono (turn k s hk) (fun r s1 q1 => ?_) no)))
  cases r with
  | none => exact wpAny_pure q1
  | some v =>
    refine wpAny_bind (wpAny_mono q1 (fun _ s2 q2 => wpAny_bind (wpAny_mono q2 (fun _ s3 q3 => wpAny_bind (wpAny_mono q3 (fun ok s4 q4 => ?_) no)) no)) no)
    cases ok with
    | false => exact wpAny_pure ⟨rfl, q4⟩
    | true => exact wpAny_bind (wpAny_bind (wpAny_mono q4 (fun x s5 q5 => wpAny_bind (wpAny_mono q5 (fun _ s6 q6 => wpAny_pure (wpAny_pure ⟨rfl, q6⟩)) no)) no))
end Ng
end
section
set_option Elab.async false
set_option linter.all false
set_option maxRecDepth 100000
set_option maxHeartbeats 4000000
set_option autoImplicit false
namespace Ng
open PySem PySem.Spec PyProof.Rows L2
def TDG (K : PySem.W.Frag) (t : Tg) : TG := fun v s H Q => ∃ m h r d r', Wd K m h H ∧ RSt K m H r s ∧ RD K m H d v ∧ setT t d r = some r' ∧ ∀ s', RSt K m H r' s' → Q s' H
def TDB (K : PySem.W.Frag) (f : Ev → Hh → Rs Bool) : TT := fun s H Q => ∃ m r h b h', Wd K m h H ∧ RSt K m H r s ∧ f r h = .ok b h' ∧ ∀ m' H', Gr K m H m' H' → Wd K m' h' H' → Q b H'
def PTs (X : Cx) (ifs : List PySem.Expr) (t : TT) : Prop := ∀ (pins : List (Addr × Obj)) (s : Shared) (σ : Sg) (H : Hp) (Q : Bool → Hp → Prop), Inv X pins σ H s → t σ H Q → wpAny (model X.prog X.w) X.A (testsOf ifs X.env true) (TP X pins σ Q) X.xe s
/-- one turn, by the data -/
def Stp (K : PySem.W.Frag) (t : Tg) (cs : Ev → Hh → Rs Bool) (f : Ev → Hh → Rs D) (n0 : Nat) (h' : Hh) (J : It) (Lp : Nat → Nat → Ev → Hh → Prop) (i k : Nat) (r : Ev) (h : Hh) (m : List Addr) (H : Hp) : Prop :=
  (J.stop i H ∧ h = h') ∨ (J.go i H ∧ ∃ d, (∀ x H2, J.yld i H x H2 → H2 = H ∧ RD K m H d x) ∧ ∃ r1, setT t d r = some r1 ∧ ∃ b h1, cs r1 h = .ok b h1 ∧
    if b = true then ∃ y h2 z h3, f r1 h1 = .ok y h2 ∧ appD (.ref n0) y h2 = .ok z h3 ∧ ∃ k', k' < k ∧ Lp (i + 1) k' r1 h3 else ∃ k', k' < k ∧ Lp (i + 1) k' r1 h1)
section
variable {X : Cx} {G : Gs} {ca : Nat → Addr} {cl : Cl} {N' : List Str} {scope : Scope} {cap : List Nat} {tg elt iter : PySem.Expr} {ifs : List PySem.Expr} {pos : Pos} {t : Tg} {ft : Ev → Hh → Rs Bool} {fe : Ev → Hh → Rs D}
theorem blockE_rel {K : PySem.W.Frag} {m : List Addr} {H : Hp} {r : Ev} {σ : Sg} (st : RSt K m H r σ) : RSt K m H (blockE N' cap r) (blkS N' cap σ) := by
  refine ⟨by simp [blockE, blkS], fun i d e => ?_⟩
  unfold blockE at e
  unfold blkS
  by_cases hi : i < N'.length - cap.length
  · rw [List.getElem?_append_left (by simpa using hi), List.getElem?_replicate] at e
    split at e <;> cases e
  · rw [List.getElem?_append_right (by simpa using hi), List.length_replicate, List.getElem?_map] at e
    rw [List.getElem?_append_right (by simpa using hi), List.length_replicate, List.getElem?_map]
    cases ec : cap[i - (N'.length - cap.length)]? with
    | none => rw [ec] at e; cases e
    | some j =>
      rw [ec] at e
      have e' : capV r j = some d := Option.some.inj e
      have hr : r[j]? = some (some d) := by
        unfold capV at e'
        cases q : r[j]? with
        | none => rw [q] at e'; cases e'
        | some y => rw [q] at e'; exact congrArg some e'
      obtain ⟨v, hv, rv⟩ := st.2 j d hr
      refine ⟨v, ?_, rv⟩
      show some (match σ[j]? with | some x => x | none => none) = some (some v)
      rw [hv]
theorem comp_core {pins : List (Addr × Obj)} {σ : Sg} {H2 : Hp} {s2 : Shared} {J : It} {fp : List Addr} {it : Addr} {tn : Nat → Heap → Prop} {m2 : List Addr} {h2 h' : Hh} {r : Ev} (S : ScOk scope X.env.scope) (hcap : cap.length ≤ N'.length)
    (hN : (N'.drop (N'.length - cap.length)).map some = cap.map (fun (i : Nat) => X.N[i]?)) (hfr : ∀ x ∈ N'.drop (N'.length - cap.length), scope.names.lookup x = some .free) (calm : X.calm = true)
    (blk : ∀ (C : Addr) (s3 : Shared) (H3 : Hp) (fp : List Addr), PG (blkX X N' scope C s3 H3 fp) tg (TDG X.K t) ∧ PTs (blkX X N' scope C s3 H3 fp) ifs (TDB X.K ft) ∧ PE (blkX X N' scope C s3 H3 fp) elt (TDE X.K fe))
    (I : Inv X pins σ H2 s2) (T : Turn X.prog X.w X.K tg J fp it tn) (st : tn 0 s2.heap) (fok : ∀ b ∈ fp, FpOk X pins H2 b) (w2 : Wd X.K m2 h2 H2) (rst : RSt X.K m2 H2 r σ)
    (Lp : Nat → Nat → Ev → Hh → Prop) (k0 : Nat) (L0 : Lp 0 k0 (blockE N' cap r) (h2 ++ [.lst []])) (hst : ∀ i k r h m H, Gr X.K m2 H2 m H → Wd X.K m h H → Lp i k r h → Stp X.K t ft fe h2.length h' J Lp i k r h m H)
    {Rr : Value → Addr → Result → Shared → Prop}
    (c : ∀ (acc C : Addr) (s1 : Shared) (H' : Hp) (m' : List Addr), Inv X pins σ H' s1 → (∃ mm, s1.heap.Ns C mm) → H' C = none → C ≠ X.env.locals → X.s₀.heap.objs.size ≤ C → (∀ x a, X.env.cells.lookup x = some a → a ≠ C) → (∀ p ∈ X.pn ++ pins, p.1 ≠ C) → Gr X.K m2 H2 m' H' → Wd X.K m' h' H' → RD X.K m' H' (.ref h2.length) (.ref acc) → Rr (.ref acc) C (.ok .next) s1) :
    wpAny (model X.prog X.w) X.A (newList []) (fun acc s3 => wpAny (model X.prog X.w) X.A (newFunctionEnv scope X.env.globals (clOf scope X.env) [] X.env.qual none .none (some X.env)) (fun cenv s4 =>
      codeAny (model X.prog X.w) X.A (.compStart (.ListComp elt [⟨tg, iter, ifs, 0⟩] scope pos) 0 (.ref it) acc { cenv with scope := relabel scope X.env }) (Rr acc cenv.locals) s4) X.xe s3) X.xe s2 := by
  -- the iterator's objects stand in the heap, and none of them is the module's
  have fob : ∀ b ∈ fp, b < s2.heap.objs.size := fun b hb => let ⟨o, e, _⟩ := T.obj 0 _ st b hb; Heap.lt_size e
  have ffb : ∀ b ∈ fp, ∀ o, X.base.get? b ≠ some o := fun b hb o e => by
    rcases (fok b hb).2.2.2.1 with z | z
    · exact I.ok.noex b o e z
    · exact absurd (Nat.lt_of_lt_of_le (Heap.lt_size (I.ok.bs b o e).1) z) (Nat.lt_irrefl _)
  have hacc0 : H2 s2.heap.objs.size = none := I.hok.fresh (Nat.le_refl _)
  refine wpAny_newObj_type (wpAny_newBlockEnv (fun h1 hns keep cok => ?_))
  dsimp only at hns keep cok ⊢
  -- the list is laid
  obtain ⟨w3, g3⟩ := w2.lstNew (ds := []) (vs := []) hacc0 .nil
  have I3 : Inv X pins σ (upd H2 s2.heap.objs.size (.lst [])) { s2 with heap := s2.heap.push { cls := .type "list", dict := none, data := .seq ([] : List Value).toArray } } :=
    I.laid (t' := s2.toks) (fun b u e => Heap.get?_push_of_some _ e) (Nat.le_refl _) ⟨Nat.zero_le _, [], 0, .nil, Heap.get?_push_size _ rfl⟩
  have fok3 : ∀ b ∈ fp, FpOk X pins (upd H2 s2.heap.objs.size (.lst [])) b := fun b hb => ⟨by rw [upd_ne (Nat.ne_of_lt (fob b hb))]; exact (fok b hb).1, (fok b hb).2⟩
  have st3 : tn 0 h1 := T.keep _ _ _ st fun b hb o e => keep b o (Heap.get?_push_of_some _ e)
  have B := bcs_ok (env := X.env) S (fun x c e => let ⟨_, q⟩ := I3.cell x c e; q.lt) cok
  have I4 := blk_start (N' := N') (scope := scope) (fp := fp) (cap := cap) I3 S hcap hN hfr (h1 := h1) (tk := s2.toks) hns keep B fok3 (fun b hb => by
    show b < (s2.heap.push _).objs.size
    rw [Heap.size_push]; exact Nat.lt_succ_of_lt (fob b hb)) ffb
  have hsz : (s2.heap.push { cls := .type "list", dict := none, data := .seq ([] : List Value).toArray }).objs.size = s2.heap.objs.size + 1 := Heap.size_push ..
  generalize hs3 : ({ s2 with heap := s2.heap.push { cls := .type "list", dict := none, data := .seq ([] : List Value).toArray } } : Shared) = s3 at I3 I4
  have eh3 : s2.heap.push { cls := .type "list", dict := none, data := .seq ([] : List Value).toArray } = s3.heap := by rw [← hs3]
  rw [eh3] at hns keep cok B hsz ⊢
  generalize hH3 : upd H2 s2.heap.objs.size (.lst []) = H3 at I3 I4 w3 g3 fok3
  obtain ⟨bG, bT, bE⟩ := blk s3.heap.objs.size s3 H3 fp
  have ha : (m2 ++ [s2.heap.objs.size])[h2.length]? = some s2.heap.objs.size := by rw [← w2.len]; simp
  have stkN : ∀ b, b ≠ X.env.locals → b ∉ X.fs → b ∉ frs X.stack := fun b h1 h2 hb => (List.mem_cons.mp (I3.stkSub b hb)).elim h1 h2
  -- the iterator's objects, seen from the block
  have fokB : ∀ {H : Hp}, (∀ b ∈ fp, H b = none) → ∀ b ∈ fp, FpOk (blkX X N' scope s3.heap.objs.size s3 H3 fp) [] H b := fun hn b hb =>
    ⟨hn b hb, Nat.ne_of_lt (by rw [hsz]; exact Nat.lt_succ_of_lt (fob b hb)), stkN b (fok b hb).2.1 (fok b hb).2.2.1, .inl hb, fun x c e => (B.inv x c e).elim (fun a => (fok b hb).2.2.2.2.1 x c (clOf_lookup a)) (fun a => Nat.ne_of_gt (Nat.lt_trans (by rw [hsz]; exact Nat.lt_succ_of_lt (fob b hb)) a.1)), fun p hp => absurd (show p ∈ ([] : List (Addr × Obj)) from hp) (by simp)⟩
  have hw : X.w = X.w := rfl
  have loop : ∀ s4 : Shared, s4 = { s3 with heap := h1, toks := s2.toks } → codeAny (model X.prog X.w) X.A (.compLoop (.ListComp elt [⟨tg, iter, ifs, 0⟩] scope pos) 0 (.ref it) (.ref s2.heap.objs.size) (compEnvC scope (bcs scope X.env s3.heap.objs.size) s3.heap.objs.size X.env)) (Rr (.ref s2.heap.objs.size) s3.heap.objs.size) s4 := by
    rintro s4 rfl
    refine comp_loop (fun k s => ∃ i σ' H' m r h, Inv (blkX X N' scope s3.heap.objs.size s3 H3 fp) [] σ' H' s ∧ tn i s.heap ∧ (∀ b ∈ fp, H' b = none) ∧ Gr X.K (m2 ++ [s2.heap.objs.size]) H3 m H' ∧ Wd X.K m h H' ∧ RSt X.K m H' r σ' ∧ Lp i k r h) ?_ k0
      ⟨0, _, H3, _, _, _, I4, st3, fun b hb => (fok3 b hb).1, .refl, w3, blockE_rel (rst.mono g3), L0⟩
    rintro k s ⟨i, σ', H', m, r', h, I', st', fr', g', w', rst', L⟩
    rcases hst i k r' h m H' (g3.trans g') w' L with ⟨stop, rfl⟩ | ⟨go, d, hy, r1, er, b, hb1, eb, rest⟩
    · refine thn (T.done (blkX X N' scope s3.heap.objs.size s3 H3 fp) rfl rfl rfl calm i [] s σ' H' nev I' (fokB fr') st' stop) fun res s1 ⟨hr, I1⟩ => ?_
      subst hr
      obtain ⟨mm, hn1, _⟩ := id I1.loc
      obtain ⟨hp1, gg, dr, tk, os⟩ := s1
      obtain rfl : os = s3.os := I1.os
      have IX : Inv X pins σ H' { s3 with heap := hp1, gens := gg, drawn := dr, toks := tk } := I3.call (ch := fp) I1.base I1.hok I1.bare fun b hb => ⟨(fok3 b hb).2.2.2.1, (fok3 b hb).2.1, (fok3 b hb).2.2.2.2.1, (fok3 b hb).2.2.2.2.2⟩
      exact c _ _ _ H' m IX ⟨mm, hn1⟩ I1.free (Nat.ne_of_gt I3.lt) I3.sz (fun x a e => by
        obtain ⟨v, q⟩ := I3.cell x a e
        exact Nat.ne_of_lt q.lt) (fun p hp => Nat.ne_of_lt (Heap.lt_size (I3.pin p hp).1)) (g3.trans g') w' (.ref (g'.pre _ _ ha))
    · refine thn (T.item (blkX X N' scope s3.heap.objs.size s3 H3 fp) rfl rfl rfl calm i [] s σ' H' nev I' (fokB fr') st' go) fun res s1 ⟨u, hr, q1⟩ => ?_
      subst hr
      refine thn q1 fun _ s5 ⟨x, H5, I5, rx, yl, st5, fr5⟩ => ?_
      obtain ⟨eH, rd⟩ := hy x H5 yl
      subst eH
      have I5' := I5.pinned (fokB fr5) (T.obj _ _ st5)
      have again : ∀ {σ7 : Sg} {H7 : Hp} {s7 : Shared} {m7 : List Addr} {r7 : Ev} {h7 : Hh}, Inv (blkX X N' scope s3.heap.objs.size s3 H3 fp) ([] ++ pinsAt fp s5.heap) σ7 H7 s7 → Gr X.K m H5 m7 H7 → Wd X.K m7 h7 H7 → RSt X.K m7 H7 r7 σ7 → (∃ k', k' < k ∧ Lp (i + 1) k' r7 h7) →
          ∃ k', k' < k ∧ ∃ i σ' H' m r h, Inv (blkX X N' scope s3.heap.objs.size s3 H3 fp) [] σ' H' s7 ∧ tn i s7.heap ∧ (∀ b ∈ fp, H' b = none) ∧ Gr X.K (m2 ++ [s2.heap.objs.size]) H3 m H' ∧ Wd X.K m h H' ∧ RSt X.K m H' r σ' ∧ Lp i k' r h := fun {σ7 H7 s7 m7 r7 h7} I7 g7 w7 st7 ⟨k', hk, L7⟩ => by
        have pn : ∀ b ∈ fp, ∀ o, s5.heap.get? b = some o → s7.heap.get? b = some o ∧ H7 b = none := fun b hb o e => let z := I7.pin (b, o) (List.mem_append_right _ (List.mem_append_right _ (mem_pinsAt hb e))); ⟨z.1, z.2.1⟩
        exact ⟨k', hk, i + 1, σ7, H7, m7, r7, h7, I7.unpinned, T.keep _ _ _ st5 fun b hb o e => (pn b hb o e).1, fun b hb => let ⟨o, e, _⟩ := T.obj _ _ st5 b hb; (pn b hb o e).2, g'.trans g7, w7, st7, L7⟩
      refine thn (bG _ s5 σ' H5 x u (fun σ2 H6 => H6 = H5 ∧ RSt X.K m H5 r1 σ2) I5' rx ⟨m, h, r', d, r1, w', rst', rd, er, fun s' z => ⟨rfl, z⟩⟩) fun _ s6 ⟨σ6, H6, I6, eH6, st6⟩ => ?_
      subst eH6
      refine thn (bT _ s6 σ6 H6 (fun b' H7 => b' = b ∧ ∃ m7, Gr X.K m H6 m7 H7 ∧ Wd X.K m7 hb1 H7) I6 ⟨m, r1, h, b, hb1, w', st6, eb, fun m' H' g w => ⟨rfl, m', g, w⟩⟩) fun b' s7 ⟨H7, I7, e7, m7, g7, w7⟩ => ?_
      subst e7
      cases b' with
      | false =>
        rw [if_neg Bool.false_ne_true] at rest ⊢
        exact again I7 g7 w7 (st6.mono g7) rest
      | true =>
        rw [if_pos rfl] at rest ⊢
        obtain ⟨y, h8, z, h9, ey, ea, rest⟩ := rest
        refine thn (bE _ s7 σ6 H7 (fun v H8 => ∃ m8, Gr X.K m7 H7 m8 H8 ∧ Wd X.K m8 h8 H8 ∧ RD X.K m8 H8 y v) I7 ⟨m7, r1, hb1, y, h8, w7, st6.mono g7, ey, fun m' v H' g w rv => ⟨m', g, w, rv⟩⟩) fun yv s8 ⟨v, H8, I8, rv, m8, g8, w8, rdy⟩ => ?_
        have ha8 : m8[h2.length]? = some s2.heap.objs.size := g8.pre _ _ (g7.pre _ _ (g'.pre _ _ ha))
        simp only [appD] at ea
        split at ea <;> first | (cases ea; done) | skip
        rename_i l el
        split at ea <;> first | (cases ea; done) | skip
        rename_i hlen
        cases ea
        obtain ⟨vs, hv, rvs⟩ : ∃ vs, H8 s2.heap.objs.size = some (.lst vs) ∧ RDs X.K m8 H8 l vs := w8.ob _ _ _ el ha8
        obtain ⟨_, w9, g9⟩ := w8.lstSet el ha8 (rvs.append (.cons rdy .nil))
        refine thn (mt_append (X := blkX X N' scope s3.heap.objs.size s3 H3 fp) _ s8 σ6 H8 (.ref s2.heap.objs.size) [v] (.ref s2.heap.objs.size) [yv] (fun _ H9 => H9 = upd H8 s2.heap.objs.size (.lst (vs ++ [v]))) I8 rfl (.cons rv .nil) ⟨_, vs, v, rfl, rfl, hv, by rw [← rvs.length]; exact Nat.lt_of_lt_of_le hlen (by decide), rfl⟩) fun _ s9 ⟨_, H9, I9, _, e9⟩ => ?_
        subst e9
        exact again I9 ((g7.trans g8).trans g9) w9 (st6.mono ((g7.trans g8).trans g9)) rest
  have es : ({ s2 with heap := h1, toks := s2.toks } : Shared) = { s3 with heap := h1, toks := s2.toks } := by subst hs3; rfl
  exact codeAny_compStart_list (loop _ es) (T.self X.A 0 _ _ _ st3 (loop _ es))
end
end Ng
end
section
set_option Elab.async false
set_option linter.all false
set_option maxRecDepth 100000
set_option maxHeartbeats 4000000
set_option autoImplicit false
namespace Ng
open PySem PySem.Spec PyProof.Rows L2
theorem _root_.L2.PG.wk {X : Cx} {e : PySem.Expr} {t t' : TG} (h : PG X e t) (i : ∀ v s H Q, t' v s H Q → t v s H Q) : PG X e t' := fun pins s σ H v u Q I r q => h pins s σ H v u Q I r (i _ _ _ _ q)
def gAll (is : List Nat) : TGs := fun vs s H Q => ∃ (K : PySem.W.Frag) (m : List Addr) (r : Ev) (ds : List D), RSt K m H r s ∧ RDs K m H ds vs ∧ ds.length = is.length ∧ ∀ s', RSt K m H (setAll is ds r) s' → Q s' H
section
variable {X : Cx} {N : List Str} {sc : Scope} {G : Gs} {ca : Nat → Addr} {cl : Cl} {K : PySem.W.Frag}
/-- targets, by what a name of theirs may be stored as -/
theorem pgsP (ok : PySem.Expr → Nat → Bool) (hok : ∀ e i, ok e i = true → ∃ x pos, e = .Name x pos ∧ PG X (.Name x pos) (gName i)) : ∀ {is : List Nat} {es : List PySem.Expr}, is.length = es.length → (∀ (j : Nat) i e, is[j]? = some i → es[j]? = some e → ok e i = true) → PGs X es (gAll is) ∧ (assignEach es X.env).length = is.length ∧ (assignEach es X.env).findIdx? (·.1) = none
  | [], [], _, _ => ⟨fun pins s σ H vs us Q I rv ⟨K, m, r, ds, st, rd, hl, c⟩ => by
      cases ds with
      | cons => cases hl
      | nil =>
        cases rd
        exact pgs_nil pins s σ H [] us Q I rv ⟨rfl, c _ st⟩, rfl, rfl⟩
  | i :: is, e :: es, hl, h => by
    obtain ⟨x, pos, rfl, pn⟩ := hok e i (h 0 i e rfl rfl)
    obtain ⟨ih, i2, i3⟩ := pgsP ok hok (is := is) (es := es) (by simpa using hl) fun j i e e1 e2 => h (j + 1) i e (by simpa using e1) (by simpa using e2)
    refine ⟨fun pins s σ H vs us Q I rv ⟨K, m, r, ds, st, rd, hl, c⟩ => ?_, ?_, ?_⟩
    · cases ds with
      | nil => cases hl
      | cons d ds =>
        cases rd with
        | cons r1 rd =>
          exact pgs_cons pn ih rfl pins s σ H _ us Q I rv ⟨_, _, rfl, K, m, _, ds, st.set i r1, rd, by simpa using hl, c⟩
    · show (assignEach es X.env).length + 1 = is.length + 1
      rw [i2]
    · show ((false, assign (.Name x pos) X.env) :: assignEach es X.env).findIdx? (·.1) = none
      rw [List.findIdx?_cons]
      simp [i3]
  | [], _ :: _, hl, _ => by simp at hl
  | _ :: _, [], hl, _ => by simp at hl
theorem pgT_of (ok : PySem.Expr → Nat → Bool) (hok : ∀ e i, ok e i = true → ∃ x pos, e = .Name x pos ∧ PG X (.Name x pos) (gName i)) (calm : X.calm = true) {t : Tg} {tg : PySem.Expr}
    (h : match t with | .nm i => ok tg i = true | .tp l => ∃ es k pos, tg = .Tuple es k pos ∧ l.length = es.length ∧ ∀ (j : Nat) i e, l[j]? = some i → es[j]? = some e → ok e i = true) : PG X tg (TDG X.K t) := by
  cases t with
  | nm i =>
    obtain ⟨x, pos, rfl, pn⟩ := hok tg i h
    refine pn.wk fun v s H Q ⟨m, hh, r, d, r', w, st, rd, e, c⟩ => ?_
    cases e
    exact c _ (st.set i rd)
  | tp l =>
    obtain ⟨es, k, pos, rfl, hl, h⟩ := h
    obtain ⟨p1, p2, p3⟩ := pgsP ok hok hl h
    refine (pg_tup calm p1 p2 p3).wk fun v s H Q ⟨m, hh, r, d, r', w, st, rd, e, c⟩ => ?_
    cases rd <;> first | (cases e; done) | skip
    rename_i a ds vs hq q _
    simp only [setT] at e
    split at e
    · rename_i hl
      cases e
      exact ⟨a, vs, rfl, hq, by rw [← q.length]; exact hl, X.K, m, r, ds, st, q, hl, c⟩
    · cases e
theorem chkNs'_of : ∀ {l : List Nat} {es : List PySem.Expr}, chkNs' N sc l es = true → l.length = es.length ∧ ∀ (j : Nat) i e, l[j]? = some i → es[j]? = some e → chkT' N sc (.nm i) e = true
  | [], [], _ => ⟨rfl, fun j i e h => by simp at h⟩
  | i :: is, e :: es, h => by
    cases e <;> first | exact absurd (show false = true from h) Bool.false_ne_true | skip
    rename_i x pos
    have h' : (N[i]? == some x && locB sc x && chkNs' N sc is es) = true := h
    rw [Bool.and_eq_true] at h'
    obtain ⟨i1, i2⟩ := chkNs'_of h'.2
    refine ⟨by simp [i1], fun j i' e' e1 e2 => ?_⟩
    cases j with
    | zero =>
      simp at e1 e2
      subst e1; subst e2
      exact h'.1
    | succ j => exact i2 j i' e' (by simpa using e1) (by simpa using e2)
  | [], _ :: _, h => absurd (show false = true from h) Bool.false_ne_true
  | _ :: _, [], h => absurd (show false = true from h) Bool.false_ne_true
abbrev LocOk (X : Cx) (scope : Scope) : Prop := ∀ x, locB scope x = true → Loc X.env.scope x ∧ (X.fn x = true ∨ X.env.scope.names.lookup x = some .local)
theorem pgT' {scope : Scope} (xo : XOk X N sc) (lo : LocOk X scope) {t : Tg} {tg : PySem.Expr} (h : chkT' N scope t tg = true) : PG X tg (TDG X.K t) := by
  refine pgT_of (fun e i => chkT' N scope (.nm i) e) (fun e i he => ?_) xo.calm ?_
  · cases e <;> first | exact absurd (show false = true from he) Bool.false_ne_true | skip
    rename_i x pos
    have h' : (N[i]? == some x && locB scope x) = true := he
    simp only [Bool.and_eq_true, beq_iff_eq] at h'
    obtain ⟨l1, l2⟩ := lo x h'.2
    exact ⟨x, pos, rfl, pg_name xo.nd (by rw [xo.n]; exact h'.1) l1 l2⟩
  · cases t with
    | nm i => exact h
    | tp l =>
      cases tg <;> first | exact absurd (show false = true from h) Bool.false_ne_true | skip
      rename_i es k pos
      obtain ⟨h1, h2⟩ := chkNs'_of (show chkNs' N scope l es = true from h)
      exact ⟨es, k, pos, rfl, h1, h2⟩
section
variable {t : Tg} {ft : Ev → Hh → Rs Bool} {fe : Ev → Hh → Rs D} {n0 : Nat} {h' : Hh} {J : It} {m2 : List Addr} {H2 : Hp} {r0 : Ev} {h0 : Hh}
abbrev Turns (K : PySem.W.Frag) (t : Tg) (ft : Ev → Hh → Rs Bool) (fe : Ev → Hh → Rs D) (n0 : Nat) (h' : Hh) (J : It) (m2 : List Addr) (H2 : Hp) (r0 : Ev) (h0 : Hh) : Prop := ∃ (Lp : Nat → Nat → Ev → Hh → Prop) (k0 : Nat), Lp 0 k0 r0 h0 ∧ ∀ i k r h m H, Gr K m2 H2 m H → Wd K m h H → Lp i k r h → Stp K t ft fe n0 h' J Lp i k r h m H
theorem turns_static {l : List D} (e : compS t ft fe n0 l r0 h0 = .ok () h') (hgo : ∀ (i : Nat) d m H, Gr K m2 H2 m H → l[i]? = some d → J.go i H ∧ ∀ x H', J.yld i H x H' → H' = H ∧ RD K m H d x) (hstop : ∀ (i : Nat) m H, Gr K m2 H2 m H → l.length ≤ i → J.stop i H) : Turns K t ft fe n0 h' J m2 H2 r0 h0 := by
  refine ⟨fun i k r h => k = l.length - i ∧ compS t ft fe n0 (l.drop i) r h = .ok () h', l.length, ⟨by simp, e⟩, fun i k r h m H g w ⟨hk, e⟩ => ?_⟩
  by_cases hi : i < l.length
  · have ed : l[i]? = some l[i] := List.getElem?_eq_getElem hi
    obtain ⟨a, b⟩ := hgo i _ m H g ed
    rw [List.drop_eq_getElem_cons hi] at e
    simp only [compS] at e
    split at e
    · cases e
    · rename_i r1 er
      obtain ⟨bb, h1, e1, e⟩ := Rs.bind_ok e
      refine .inr ⟨a, _, b, r1, er, bb, h1, e1, ?_⟩
      cases bb with
      | true =>
        rw [if_pos rfl] at e ⊢
        obtain ⟨y, h3, e3, e⟩ := Rs.bind_ok e
        obtain ⟨z, h4, e4, e⟩ := Rs.bind_ok e
        exact ⟨y, h3, z, h4, e3, e4, _, by omega, rfl, e⟩
      | false =>
        rw [if_neg Bool.false_ne_true] at e ⊢
        exact ⟨_, by omega, rfl, e⟩
  · rw [List.drop_eq_nil_of_le (by omega)] at e
    cases e
    exact .inl ⟨hstop i m H g (by omega), rfl⟩
theorem turns_tup {a : Addr} {l : List D} {vs : List V} (hq : SqT K H2 a vs) (q : RDs K m2 H2 l vs) (e : compS t ft fe n0 l r0 h0 = .ok () h') : Turns K t ft fe n0 h' (Itt K a) m2 H2 r0 h0 :=
  turns_static e (fun i d m H g ed => by
    obtain ⟨v, hv, rv⟩ := q.get ed
    exact ⟨⟨vs, v, g.tup _ _ hq, hv⟩, fun x H' y => by
      obtain ⟨eH, y⟩ := y
      have := y vs (g.tup _ _ hq)
      rw [hv] at this; cases this
      exact ⟨eH, rv.mono g⟩⟩) fun i m H g hi => ⟨vs, g.tup _ _ hq, by rw [← q.length]; exact hi⟩
theorem turns_rng {lo hi : Int} (e : compS t ft fe n0 (rngD lo hi) r0 h0 = .ok () h') : Turns K t ft fe n0 h' (Itr lo (hi - lo).toNat) m2 H2 r0 h0 := by
  have hl : (rngD lo hi).length = (hi - lo).toNat := by unfold rngD; simp
  refine turns_static e (fun i d m H g ed => ?_) fun i m H g h => by rw [hl] at h; exact h
  have hi' : i < (hi - lo).toNat := by rw [← hl]; exact (List.getElem?_eq_some_iff.mp ed).1
  have hd : (rngD lo hi)[i]? = some (D.int (lo + i)) := by
    unfold rngD
    rw [List.getElem?_map, List.getElem?_range hi']
    rfl
  rw [hd] at ed; cases ed
  exact ⟨hi', fun x H' y => ⟨y.1, by rw [y.2]; exact .int _⟩⟩
theorem turns_lst {a : Addr} {n k0 : Nat} (ha : m2[n]? = some a) (e : compI t ft fe n0 n k0 0 r0 h0 = .ok () h') : Turns K t ft fe n0 h' (Itl K a) m2 H2 r0 h0 := by
  refine ⟨fun i k r h => compI t ft fe n0 n k i r h = .ok () h', k0, e, fun i k r h m H g w e => ?_⟩
  cases k with
  | zero => cases e
  | succ k =>
    simp only [compI] at e
    split at e
    · cases e
    · rename_i l el
      obtain ⟨a', vs, ha', hq, q⟩ := w.lst el
      rw [g.pre _ _ ha] at ha'; cases ha'
      split at e
      · rename_i en
        cases e
        exact .inl ⟨⟨vs, hq, by rw [← q.length]; exact List.getElem?_eq_none_iff.mp en⟩, rfl⟩
      · rename_i d ed
        obtain ⟨v, hv, rv⟩ := q.get ed
        split at e
        · cases e
        · rename_i r1 er
          obtain ⟨bb, h1, e1, e⟩ := Rs.bind_ok e
          refine .inr ⟨⟨vs, v, hq, hv⟩, d, fun x H' y => ?_, r1, er, bb, h1, e1, ?_⟩
          · obtain ⟨eH, y⟩ := y
            have := y vs hq
            rw [hv] at this; cases this
            exact ⟨eH, rv⟩
          · cases bb with
            | true =>
              rw [if_pos rfl] at e ⊢
              obtain ⟨y, h3, e3, e⟩ := Rs.bind_ok e
              obtain ⟨z, h4, e4, e⟩ := Rs.bind_ok e
              exact ⟨y, h3, z, h4, e3, e4, k, Nat.lt_succ_self _, e⟩
            | false =>
              rw [if_neg Bool.false_ne_true] at e ⊢
              exact ⟨k, Nat.lt_succ_self _, e⟩
end
/-- [elt for tg in iter if ..] -/
theorem comp_pe {N' : List Str} {scope : Scope} {cap : List Nat} {tg elt iter : PySem.Expr} {ifs : List PySem.Expr} {pos : Pos} {t : Tg} {ft : Ev → Hh → Rs Bool} {fe : Ev → Hh → Rs D} {f : Ev → Hh → Rs D} (xo : XOk X N sc) (S : ScOk scope sc) (hcap : cap.length ≤ N'.length)
    (hN : (N'.drop (N'.length - cap.length)).map some = cap.map (fun (i : Nat) => N[i]?)) (hfr : ∀ x ∈ N'.drop (N'.length - cap.length), scope.names.lookup x = some .free)
    (blk : ∀ (C : Addr) (s3 : Shared) (H3 : Hp) (fp : List Addr), PG (blkX X N' scope C s3 H3 fp) tg (TDG X.K t) ∧ PTs (blkX X N' scope C s3 H3 fp) ifs (TDB X.K ft) ∧ PE (blkX X N' scope C s3 H3 fp) elt (TDE X.K fe)) (hset : noSet iter = true)
    (hi : ∀ (pins : List (Addr × Obj)) (s : Shared) (σ : Sg) (H : Hp) (m : List Addr) (r : Ev) (h : Hh) (d : D) (h' : Hh), Inv X pins σ H s → Wd X.K m h H → RSt X.K m H r σ → f r h = .ok d h' → ∃ h1, d = .ref h1.length ∧ wpAny (model X.prog X.w) X.A (eval iter X.env) (fun v s1 => wpAny (model X.prog X.w) X.A (pyIter v)
      (PIE X pins σ tg fun J H2 => ∃ m2, Gr X.K m H m2 H2 ∧ Wd X.K m2 h1 H2 ∧ Turns X.K t ft fe h1.length h' J m2 H2 (blockE N' cap r) (h1 ++ [.lst []])) X.xe s1) X.xe s) :
    PE X (.ListComp elt [⟨tg, iter, ifs, 0⟩] scope pos) (TDE X.K f) := by
  intro pins s σ H Q I ⟨m, r, h, d, h', w, st, e, c⟩
  obtain ⟨h1, rfl, hw⟩ := hi pins s σ H m r h d h' I w st e
  rw [eval_ListComp]
  have S' : ScOk scope X.env.scope := by rw [xo.s]; exact S
  refine wpAny_comprehension_free (use := none) rfl (fun z => by cases iter <;> first | rfl | (cases hset; done)) (closure_is fun p hp e => I.ok.has p.1 (.inl (S'.free p hp e))) S.kind S.loc ?_
  refine thn hw fun v s1 q1 => thn q1 fun itv s2 q2 => ?_
  obtain ⟨it, fp, tn, J, H2, rfl, I2, T, st2, fok, m2, g2, w2, Lp, k0, L0, hst⟩ := q2
  refine comp_core (Rr := fun acc C => compPost (model X.prog X.w) X.A X.xe none (EP X pins σ Q) acc C) S' hcap (by rw [xo.n]; exact hN) hfr xo.calm blk I2 T st2 fok w2 (st.mono g2) Lp k0 L0 hst fun acc C s1 H' m' I1 ⟨mm, hn⟩ hC hL hz hc hp g' w' rv => ?_
  refine ⟨mm, hn, fun hh hsb => ⟨.ref acc, H', I1.turned (fun b o hb e => hsb.extBut b o hb e) hC (Ne.symm (Ne.symm hL)) (.inr hz) hc hp, rfl, c m' _ H' (g2.trans g') w' rv⟩⟩
/-- name = [elt for tg in iter if ..], all of it on one row -/
theorem comp_ps {N' : List Str} {scope : Scope} {cap : List Nat} {tg elt iter : PySem.Expr} {ifs : List PySem.Expr} {pos spos py : Pos} {y : Str} {i : Nat} {t : Tg} {ft : Ev → Hh → Rs Bool} {fe : Ev → Hh → Rs D} {f : Ev → Hh → Rs D} (xo : XOk X N sc) (S : ScOk scope sc) (hcap : cap.length ≤ N'.length)
    (hN : (N'.drop (N'.length - cap.length)).map some = cap.map (fun (i : Nat) => N[i]?)) (hfr : ∀ x ∈ N'.drop (N'.length - cap.length), scope.names.lookup x = some .free)
    (blk : ∀ (C : Addr) (s3 : Shared) (H3 : Hp) (fp : List Addr), PG (blkX X N' scope C s3 H3 fp) tg (TDG X.K t) ∧ PTs (blkX X N' scope C s3 H3 fp) ifs (TDB X.K ft) ∧ PE (blkX X N' scope C s3 H3 fp) elt (TDE X.K fe)) (hset : noSet iter = true)
    (hi : ∀ (pins : List (Addr × Obj)) (s : Shared) (σ : Sg) (H : Hp) (m : List Addr) (r : Ev) (h : Hh) (d : D) (h' : Hh), Inv X pins σ H s → Wd X.K m h H → RSt X.K m H r σ → f r h = .ok d h' → ∃ h1, d = .ref h1.length ∧ wpAny (model X.prog X.w) X.A (eval iter X.env) (fun v s1 => wpAny (model X.prog X.w) X.A (pyIter v)
      (PIE X pins σ tg fun J H2 => ∃ m2, Gr X.K m H m2 H2 ∧ Wd X.K m2 h1 H2 ∧ Turns X.K t ft fe h1.length h' J m2 H2 (blockE N' cap r) (h1 ++ [.lst []])) X.xe s1) X.xe s)
    (hy : N[i]? = some y) (hl : sc.names.lookup y = some .local) (hsw : swapsWith (.ListComp elt [⟨tg, iter, ifs, 0⟩] scope pos) (some (.Name y py)) spos.line X.env = pure true) :
    PS X (.Assign [.Name y py] (.ListComp elt [⟨tg, iter, ifs, 0⟩] scope pos) spos) (tAsg (TDE X.K f) (gName i)) := by
  intro pins s σ H Z I ⟨m, r, h, d, h', w, st, e, c⟩
  obtain ⟨h1, rfl, hw⟩ := hi pins s σ H m r h d h' I w st e
  have S' : ScOk scope X.env.scope := by rw [xo.s]; exact S
  rw [exec_Assign_Name_used _ _ _ _ hsw]
  refine wpAny_bind (wpAny_standAt (wpAny_bind ?_))
  show wpAny _ X.A (do let _ ← comprehension (.ListComp elt [⟨tg, iter, ifs, 0⟩] scope pos) scope X.env _ (newList []) false (eval iter X.env) (some (assign (.Name y py) X.env))) _ _ s
  refine wpAny_bind (thn (wpAny_comprehension_free (use := some (assign (.Name y py) X.env)) (Q := fun _ s' => SP X pins Z .next s') rfl (fun z => by cases iter <;> first | rfl | (cases hset; done)) (closure_is fun p hp e => I.ok.has p.1 (.inl (S'.free p hp e))) S.kind S.loc ?_) fun _ s' q => wpAny_pure (wpAny_pure q))
  refine thn hw fun v s1 q1 => thn q1 fun itv s2 q2 => ?_
  obtain ⟨it, fp, tn, J, H2, rfl, I2, T, st2, fok, m2, g2, w2, Lp, k0, L0, hst⟩ := q2
  refine comp_core (Rr := fun acc C => compPost (model X.prog X.w) X.A X.xe (some (assign (.Name y py) X.env)) (fun _ s' => SP X pins Z .next s') acc C) S' hcap (by rw [xo.n]; exact hN) hfr xo.calm blk I2 T st2 fok w2 (st.mono g2) Lp k0 L0 hst fun acc C s1 H' m' I1 ⟨mm, hn⟩ hC hL hz hc hp g' w' rv => ?_
  show wpAny _ X.A (assign (.Name y py) X.env (.ref acc)) _ _ s1
  have hyl : X.env.kindOf y = some .local := by show X.env.scope.names.lookup y = _; rw [xo.s]; exact hl
  refine wpAny_assign_Name (store_ok2 (i := i) (v := .ref acc) I1 xo.nd (by rw [xo.n]; exact hy) (.inl (by rw [xo.s]; exact hl)) rfl (fun s5 I5 ⟨a, hsa, hq⟩ => ?_) (.inr (by rw [xo.s]; exact hl)))
  have ea : a ≠ C := by
    rcases hq with rfl | hq
    · exact fun z => hL z.symm
    · exact hc _ _ hq
  refine ⟨mm, ?_, fun hh hsb => ⟨_, H', I5.turned (fun b o hb e => hsb.extBut b o hb e) hC hL (.inr hz) hc hp, c m' _ H' (g2.trans g') w' rv⟩⟩
  obtain ⟨o, es, ep, e1, e2⟩ := hn
  exact ⟨o, es, ep, hsa.extBut C o (Ne.symm ea) e1, e2⟩
end
end Ng
end
section
set_option Elab.async false
set_option linter.all false
set_option maxRecDepth 100000
set_option maxHeartbeats 4000000
set_option autoImplicit false
namespace Ng
open PySem PySem.Spec PyProof.Rows L2
def iterChk (N : List Str) (sc : Scope) (G : Gs) (it : Es) : Ck → PySem.Expr → Prop
  | .sq, x => chks N sc G it [x] = true
  | .r1, x => ∃ p a pos, x = .Call (.Name "range" p) [a] [] pos ∧ glB sc "range" = true ∧ chks N sc G it [a] = true
  | .r2, x => ∃ p a b pos, x = .Call (.Name "range" p) [a, b] [] pos ∧ glB sc "range" = true ∧ chks N sc G it [a, b] = true
structure CompOk (N : List Str) (sc : Scope) (G : Gs) (t : Tg) (k : Ck) (it cs : Es) (e : E) (N' : List Str) (cap : List Nat) (elt tg iter : PySem.Expr) (ifs : List PySem.Expr) (scope : Scope) : Prop where
  S : ScOk scope sc
  nd : N'.Nodup
  capL : cap.length ≤ N'.length
  nN : (N'.drop (N'.length - cap.length)).map some = cap.map (fun (i : Nat) => N[i]?)
  fr : ∀ x ∈ N'.drop (N'.length - cap.length), scope.names.lookup x = some .free
  ns : noSet iter = true
  tg : chkT' N' scope t tg = true
  cs : chks N' (relab scope sc) G cs ifs = true
  e : chk N' (relab scope sc) G e elt = true
  it : iterChk N sc G it k iter
section
variable {X : Cx} {N : List Str} {sc : Scope} {G : Gs} {ca : Nat → Addr} {cl : Cl}
theorem compChk {t : Tg} {k : Ck} {it cs : Es} {e : E} {N' : List Str} {cap : List Nat} {v : PySem.Expr} (h : chk N sc G (.comp t k it cs e N' cap) v = true) :
    ∃ elt tg iter ifs scope pos, v = .ListComp elt [⟨tg, iter, ifs, 0⟩] scope pos ∧ CompOk N sc G t k it cs e N' cap elt tg iter ifs scope := by
  cases v <;> first | exact absurd (show false = true from h) Bool.false_ne_true | skip
  rename_i elt gens scope pos
  cases gens with
  | nil => exact absurd (show false = true from h) Bool.false_ne_true
  | cons g gs =>
    obtain ⟨tg, iter, ifs, as⟩ := g
    cases gs with
    | cons => cases as with
      | ofNat n => cases n <;> exact absurd (show false = true from h) Bool.false_ne_true
      | negSucc n => exact absurd (show false = true from h) Bool.false_ne_true
    | nil =>
      cases as with
      | negSucc n => exact absurd (show false = true from h) Bool.false_ne_true
      | ofNat n =>
        cases n with
        | succ n => exact absurd (show false = true from h) Bool.false_ne_true
        | zero =>
          have hh : ∃ last : Bool, (scOk scope sc && nodupB N' && capOk N N' cap scope && noSet iter && chkT' N' scope t tg && chks N' (relab scope sc) G cs ifs && chk N' (relab scope sc) G e elt && last) = true ∧ (last = true → iterChk N sc G it k iter) := by
            cases k with
            | sq => exact ⟨_, h, fun z => z⟩
            | r1 =>
              cases iter <;> first | (refine ⟨false, h, fun z => by cases z⟩) | skip
              rename_i fe es kw pos'
              cases fe <;> first | (refine ⟨false, h, fun z => by cases z⟩) | skip
              rename_i x p
              rcases es with _ | ⟨a, _ | ⟨b, es⟩⟩ <;> rcases kw with _ | ⟨kk, kw⟩ <;> first | (refine ⟨false, h, fun z => by cases z⟩) | skip
              refine ⟨_, h, fun z => ?_⟩
              simp only [Bool.and_eq_true, beq_iff_eq] at z
              obtain ⟨⟨rfl, z1⟩, z2⟩ := z
              exact ⟨p, a, pos', rfl, z1, z2⟩
            | r2 =>
              cases iter <;> first | (refine ⟨false, h, fun z => by cases z⟩) | skip
              rename_i fe es kw pos'
              cases fe <;> first | (refine ⟨false, h, fun z => by cases z⟩) | skip
              rename_i x p
              rcases es with _ | ⟨a, _ | ⟨b, _ | ⟨c, es⟩⟩⟩ <;> rcases kw with _ | ⟨kk, kw⟩ <;> first | (refine ⟨false, h, fun z => by cases z⟩) | skip
              refine ⟨_, h, fun z => ?_⟩
              simp only [Bool.and_eq_true, beq_iff_eq] at z
              obtain ⟨⟨rfl, z1⟩, z2⟩ := z
              exact ⟨p, a, b, pos', rfl, z1, z2⟩
          obtain ⟨last, h', hl⟩ := hh
          simp only [Bool.and_eq_true] at h'
          obtain ⟨⟨⟨⟨⟨⟨⟨h1, h2⟩, h3⟩, h4⟩, h5⟩, h6⟩, h7⟩, h8⟩ := h'
          unfold capOk at h3
          simp only [Bool.and_eq_true, decide_eq_true_eq, beq_iff_eq, List.all_eq_true] at h3
          exact ⟨elt, tg, iter, ifs, scope, pos, rfl, scOk_of h1, nodupB_ok h2, h3.1.1, h3.1.2, h3.2, h4, h5, h6, h7, hl h8⟩
theorem tests_false {ifs : List PySem.Expr} {env : Env} {M : Model} {A : Around} {E : Value → Shared → Prop} {s : Shared} {Q : Bool → Shared → Prop} (h : Q false s) : wpAny M A (testsOf ifs env false) Q E s := by
  induction ifs with
  | nil => exact wpAny_pure h
  | cons c l ih =>
    unfold testsOf at ih ⊢
    rw [List.forIn_cons, if_neg Bool.false_ne_true]
    exact wpAny_bind (wpAny_pure ih)
theorem tests_cons {c : PySem.Expr} {l : List PySem.Expr} {env : Env} {M : Model} {A : Around} {E : Value → Shared → Prop} {s : Shared} {Q : Bool → Shared → Prop} (h : wpAny M A (isTrue c env (eval c env)) (fun b s' => wpAny M A (testsOf l env b) Q E s') E s) : wpAny M A (testsOf (c :: l) env true) Q E s := by
  unfold testsOf at h ⊢
  rw [List.forIn_cons, if_pos rfl]
  exact wpAny_bind (wpAny_bind (thn h fun b s' q => wpAny_pure q))
theorem blk_xo {N' : List Str} {scope : Scope} (xo : XOk X N sc) (nd : N'.Nodup) (C : Addr) (s3 : Shared) (H3 : Hp) (fp : List Addr) : XOk (blkX X N' scope C s3 H3 fp) N' (relab scope sc) :=
  ⟨rfl, by rw [← xo.s]; rfl, xo.calm, nd, xo.room, xo.rng, PassesOwn.never⟩
theorem blk_loc {N' : List Str} {scope : Scope} (S : ScOk scope X.env.scope) (C : Addr) (s3 : Shared) (H3 : Hp) (fp : List Addr) : LocOk (blkX X N' scope C s3 H3 fp) scope := fun x hx => by
  rcases locB_ok hx with h | h
  · have z : (relabel scope X.env).names.lookup x = some .local := lookup_relabel_local h
    exact ⟨.inl z, .inr z⟩
  · have z : (relabel scope X.env).names.lookup x = some .cell := relab_own h
    refine ⟨.inr z, .inl ?_⟩
    show (scope.names.lookup x == some .cell) = true
    rw [h]; rfl
theorem blk_go {N' : List Str} {scope : Scope} (go : GOk X G ca cl) (C : Addr) (s3 : Shared) (H3 : Hp) (fp : List Addr) : GOk (blkX X N' scope C s3 H3 fp) G ca cl := ⟨go.fn, go.cst, go.blt, go.ty, go.exc, go.sub, go.verr⟩
/-- what is walked -/
theorem comp_it {t : Tg} {k : Ck} {it cs : Es} {e : E} {N' : List Str} {cap : List Nat} {elt tg iter : PySem.Expr} {ifs : List PySem.Expr} {scope : Scope} (xo : XOk X N sc) (c : CompOk N sc G t k it cs e N' cap elt tg iter ifs scope)
    (hA : ∀ es, chks N sc G it es = true → PA X es (TDA X.K (evs G cl it))) (h1 : ∀ c' x, it = .cons c' .nil → chk N sc G c' x = true → PE X x (TDE X.K (ev G cl c')))
    (pins : List (Addr × Obj)) (s : Shared) (σ : Sg) (H : Hp) (m : List Addr) (r : Ev) (h : Hh) (d : D) (h' : Hh) (I : Inv X pins σ H s) (w : Wd X.K m h H) (st : RSt X.K m H r σ) (ev1 : ev G cl (.comp t k it cs e N' cap) r h = .ok d h') :
    ∃ h1, d = .ref h1.length ∧ wpAny (model X.prog X.w) X.A (eval iter X.env) (fun v s1 => wpAny (model X.prog X.w) X.A (pyIter v)
      (PIE X pins σ tg fun J H2 => ∃ m2, Gr X.K m H m2 H2 ∧ Wd X.K m2 h1 H2 ∧ Turns X.K t (evt G cl cs) (ev G cl e) h1.length h' J m2 H2 (blockE N' cap r) (h1 ++ [.lst []])) X.xe s1) X.xe s := by
  rw [ev] at ev1
  obtain ⟨xs, hh1, e1, e2⟩ := Rs.bind_ok ev1
  obtain ⟨_, hh2, e3, e2⟩ := Rs.bind_ok e2
  cases e2
  refine ⟨hh1, rfl, ?_⟩
  have ci := c.it
  cases k with
  | sq =>
    have ci' : chks N sc G it [iter] = true := ci
    cases it with
    | nil => exact absurd (show false = true from ci') Bool.false_ne_true
    | cons c' l =>
      have z : (noStar iter && chk N sc G c' iter && chks N sc G l []) = true := ci'
      simp only [Bool.and_eq_true] at z
      cases l with
      | cons => exact absurd (show false = true from z.2) Bool.false_ne_true
      | nil =>
        have hp := h1 c' iter rfl z.1.2
        rw [evs] at e1
        obtain ⟨x, h5, ex, e1⟩ := Rs.bind_ok e1
        rw [evs] at e1
        obtain ⟨_, _, e4, e1⟩ := Rs.bind_ok e1
        cases e4; cases e1
        cases x <;> first | (cases e3; done) | skip
        · refine pi_tup hp pins s σ H _ I ⟨m, r, h, _, _, w, st, ex, fun m' v H' g w' rv => ?_⟩
          cases rv with
          | tup hq q => exact ⟨_, rfl, ⟨_, hq⟩, m', g, w', turns_tup hq q e3⟩
        · rename_i n
          simp only [compL] at e3
          split at e3
          · rename_i l el
            refine pi_list hp pins s σ H _ I ⟨m, r, h, _, _, w, st, ex, fun m' v H' g w' rv => ?_⟩
            cases rv with
            | ref ha =>
              obtain ⟨a', vs, ha', hq, _⟩ := w'.lst el
              rw [ha] at ha'; cases ha'
              exact ⟨_, rfl, ⟨_, hq⟩, m', g, w', turns_lst ha e3⟩
          · cases e3
  | r1 =>
    obtain ⟨p, a, pos, rfl, hg, hc⟩ := ci
    have hs : noStar a = true := by
      cases it with
      | nil => exact absurd (show false = true from hc) Bool.false_ne_true
      | cons c' l =>
        have z : (noStar a && chk N sc G c' a && chks N sc G l []) = true := hc
        simp only [Bool.and_eq_true] at z
        exact z.1.1
    refine pi_range1 (glB_ok xo hg) xo.rng (hA _ hc) (star_one [] hs) pins s σ H _ I ⟨m, r, h, xs, hh1, w, st, e1, fun m' vs H' g w' rv => ?_⟩
    rcases xs with _ | ⟨x, _ | ⟨y, xs⟩⟩ <;> first | (cases e3; done) | (cases x <;> (cases e3; done)) | skip
    cases x <;> first | (cases e3; done) | skip
    rename_i j
    simp only [compL] at e3
    split at e3
    · rename_i ho
      cases rv with
      | cons rx rv =>
        cases rx; cases rv
        have tt := turns_rng (K := X.K) (m2 := m') (H2 := H') (lo := 0) (hi := j) e3
        exact ⟨j, rfl, ho.1, ho.2, m', g, w', by simpa using tt⟩
    · cases e3
  | r2 =>
    obtain ⟨p, a, b, pos, rfl, hg, hc⟩ := ci
    have hs : noStar a = true ∧ noStar b = true := by
      cases it with
      | nil => exact absurd (show false = true from hc) Bool.false_ne_true
      | cons c' l =>
        have z : (noStar a && chk N sc G c' a && chks N sc G l [b]) = true := hc
        simp only [Bool.and_eq_true] at z
        cases l with
        | nil => exact absurd (show false = true from z.2) Bool.false_ne_true
        | cons c2 l =>
          have z2 : (noStar b && chk N sc G c2 b && chks N sc G l []) = true := z.2
          simp only [Bool.and_eq_true] at z2
          exact ⟨z.1.1, z2.1.1⟩
    refine pi_range2 (glB_ok xo hg) xo.rng (hA _ hc) (by rw [star_one [b] hs.1, star_one [] hs.2]; rfl) (star_one [] hs.2) pins s σ H _ I ⟨m, r, h, xs, hh1, w, st, e1, fun m' vs H' g w' rv => ?_⟩
    have hx : ∃ i j, xs = [.int i, .int j] ∧ (okR i ∧ okR j) ∧ compS t (evt G cl cs) (ev G cl e) hh1.length (rngD i j) (blockE N' cap r) (hh1 ++ [.lst []]) = .ok () h' := by
      unfold compL at e3
      split at e3 <;> first | (cases e3; done) | skip
      all_goals first
        | (exfalso; contradiction)
        | (split at e3
           · rename_i ho
             exact ⟨_, _, rfl, ho, e3⟩
           · cases e3)
    obtain ⟨i, j, rfl, ho, e3⟩ := hx
    cases rv with
    | cons rx rv =>
      cases rv with
      | cons ry rv =>
        cases rx; cases ry; cases rv
        exact ⟨i, j, rfl, ⟨ho.1.1, ho.1.2, ho.2.1, ho.2.2⟩, m', g, w', turns_rng e3⟩
end
end Ng
end
section
set_option Elab.async false
set_option linter.all false
set_option maxRecDepth 100000
set_option maxHeartbeats 4000000
set_option autoImplicit false
namespace Ng
open PySem PySem.Spec PyProof.Rows L2
theorem boot_ty (t : Ty) : bootBuiltins (Str.ofString t.nm) = some (.type t.nm) := by cases t <;> decide +kernel
theorem ty_dbg (t : Ty) : (Str.ofString t.nm == ("__debug__" : Str)) = false ∧ Str.ofString t.nm ≠ "__name__" := by cases t <;> decide +kernel
theorem boot_blt (f : Blt) : bootBuiltins f.nm = some f.val := by cases f <;> decide +kernel
theorem blt_dbg (f : Blt) : (f.nm == ("__debug__" : Str)) = false ∧ f.nm ≠ "__name__" := by cases f <;> decide +kernel
section
variable {X : Cx} {N : List Str} {sc : Scope} {G : Gs} {ca : Nat → Addr} {cl : Cl}
theorem TDE.one {K : PySem.W.Frag} {fa f : Ev → Hh → Rs D} {k : Ev → D → Hh → Rs D} {s : Sg} {H : Hp} {Q R : VK} (hf : ∀ r h, f r h = (fa r h).bind (k r)) (q : TDE K f s H Q)
    (c : ∀ (m m2 : List Addr) (r : Ev) (d : D) (h2 h' : Hh) (H2 : Hp) (dx : D) (x : V), RSt K m H r s → Gr K m H m2 H2 → Wd K m2 h2 H2 → RSt K m2 H2 r s → RD K m2 H2 dx x → k r dx h2 = .ok d h' → (∀ m' v H', Gr K m2 H2 m' H' → Wd K m' h' H' → RD K m' H' d v → Q v H') → R x H2) : TDE K fa s H R := by
  obtain ⟨m, r, h, d, h', w, st, e, cc⟩ := q
  rw [hf] at e
  obtain ⟨dx, h1, e1, e⟩ := Rs.bind_ok e
  exact ⟨m, r, h, dx, h1, w, st, e1, fun m1 x H1 g1 w1 rx => c m m1 r d h1 h' H1 dx x st g1 w1 (st.mono g1) rx e fun m' v H' g => cc m' v H' (g1.trans g)⟩
end
section
variable (G : Gs) (ca : Nat → Addr) (cl : Cl)
def IE (c : E) : Prop := ∀ (X : Cx) (N : List Str) (sc : Scope) (xo : XOk X N sc) (go : GOk X G ca cl), (∀ e, chk N sc G c e = true → PE X e (TDE X.K (ev G cl c))) ∧ (∀ e, chk N sc G c e = true → PT X e (TDT X.K (ev G cl c)))
def IA (l : Es) : Prop := ∀ (X : Cx) (N : List Str) (sc : Scope) (xo : XOk X N sc) (go : GOk X G ca cl) (es : List PySem.Expr), chks N sc G l es = true → PA X es (TDA X.K (evs G cl l))
def IB (l : Es) : Prop := ∀ (X : Cx) (N : List Str) (sc : Scope) (xo : XOk X N sc) (go : GOk X G ca cl) (es : List PySem.Expr), chks N sc G l es = true → PTs X es (TDB X.K (evt G cl l))
def IQ (l : Es) : Prop := ∀ (X : Cx) (N : List Str) (sc : Scope) (xo : XOk X N sc) (go : GOk X G ca cl) (c' : E) (x : PySem.Expr), l = .cons c' .nil → chk N sc G c' x = true → PE X x (TDE X.K (ev G cl c'))
def IP (l : Es) : Prop := ∀ (X : Cx) (N : List Str) (sc : Scope) (xo : XOk X N sc) (go : GOk X G ca cl) (ks : List Str) (keys : List (Option PySem.Expr)) (vals : List PySem.Expr) (pos : Pos), keys.length = vals.length → strKeys ks keys = true → chks N sc G l vals = true → PPs X pos keys vals (trsOf X.K G cl ks l)
end
theorem kE_var {G : Gs} {ca : Nat → Addr} {cl : Cl} (i : Nat)  : IE G ca cl (.var i) := fun X N sc xo go => by
  have p : ∀ e, chk N sc G (.var i) e = true → PE X e (TDE X.K (ev G cl (.var i))) ∧ PT X e (TDT X.K (ev G cl (.var i))) := fun e h => by
    cases e <;> first | exact absurd (show false = true from h) Bool.false_ne_true | skip
    rename_i x pos
    have h' : (N[i]? == some x && visB sc x && noDbg x) = true := h
    simp only [Bool.and_eq_true, beq_iff_eq] at h'
    obtain ⟨d1, d2, d3⟩ := noDbg_ok h'.2
    have p : PE X (.Name x pos) (TDE X.K (ev G cl (.var i))) := (pv i (by rw [xo.n]; exact h'.1.1) (by rw [xo.s]; exact visB_ok h'.1.2) d1 d2).wk fun s H Q ⟨m, r, hh, d, h', w, st, e1, c⟩ => by
      simp only [ev] at e1
      split at e1
      · rename_i d' ed
        cases e1
        obtain ⟨v, hv, rv⟩ := st.2 i _ ed
        exact ⟨v, hv, c m v H Gr.refl w rv⟩
      · cases e1
    exact ⟨p, tOf p fun _ => rfl⟩
  exact ⟨fun e h => (p e h).1, fun e h => (p e h).2⟩
theorem kE_int {G : Gs} {ca : Nat → Addr} {cl : Cl} (i : Int)  : IE G ca cl (.int i) := fun X N sc xo go => by
  have p : ∀ e, chk N sc G (.int i) e = true → PE X e (TDE X.K (ev G cl (.int i))) ∧ PT X e (TDT X.K (ev G cl (.int i))) := fun e h => by
    cases e <;> first | exact absurd (show false = true from h) Bool.false_ne_true | skip
    rename_i k j pos
    cases k <;> first | exact absurd (show false = true from h) Bool.false_ne_true | skip
    rename_i i'
    have h' : (i == i') = true := h
    simp only [beq_iff_eq] at h'
    subst h'
    have p : PE X (.Constant (.int i) j pos) (TDE X.K (ev G cl (.int i))) := (pe_int).wk fun s H Q ⟨m, r, hh, d, h', w, st, e1, c⟩ => by
      cases e1
      exact c m _ H Gr.refl w (.int i)
    exact ⟨p, tOf p fun _ => rfl⟩
  exact ⟨fun e h => (p e h).1, fun e h => (p e h).2⟩
theorem kE_bl {G : Gs} {ca : Nat → Addr} {cl : Cl} (b : Bool)  : IE G ca cl (.bl b) := fun X N sc xo go => by
  have p : ∀ e, chk N sc G (.bl b) e = true → PE X e (TDE X.K (ev G cl (.bl b))) ∧ PT X e (TDT X.K (ev G cl (.bl b))) := fun e h => by
    cases e <;> first | exact absurd (show false = true from h) Bool.false_ne_true | skip
    rename_i k j pos
    cases k <;> first | exact absurd (show false = true from h) Bool.false_ne_true | skip
    rename_i b'
    have h' : (b == b') = true := h
    simp only [beq_iff_eq] at h'
    subst h'
    have p : PE X (.Constant (.bool b) j pos) (TDE X.K (ev G cl (.bl b))) := (pe_bl).wk fun s H Q ⟨m, r, hh, d, h', w, st, e1, c⟩ => by
      cases e1
      exact c m _ H Gr.refl w (.bl b)
    exact ⟨p, tOf p fun _ => rfl⟩
  exact ⟨fun e h => (p e h).1, fun e h => (p e h).2⟩
theorem kE_non {G : Gs} {ca : Nat → Addr} {cl : Cl}   : IE G ca cl (.non ) := fun X N sc xo go => by
  have p : ∀ e, chk N sc G .non e = true → PE X e (TDE X.K (ev G cl .non)) ∧ PT X e (TDT X.K (ev G cl .non)) := fun e h => by
    cases e <;> first | exact absurd (show false = true from h) Bool.false_ne_true | skip
    rename_i k j pos
    cases k <;> first | exact absurd (show false = true from h) Bool.false_ne_true | skip
    have p : PE X (.Constant .none j pos) (TDE X.K (ev G cl .non)) := (pe_non).wk fun s H Q ⟨m, r, hh, d, h', w, st, e1, c⟩ => by
      cases e1
      exact c m _ H Gr.refl w .non
    exact ⟨p, tOf p fun _ => rfl⟩
  exact ⟨fun e h => (p e h).1, fun e h => (p e h).2⟩
theorem kE_str {G : Gs} {ca : Nat → Addr} {cl : Cl} (x : Str)  : IE G ca cl (.str x) := fun X N sc xo go => by
  have p : ∀ e, chk N sc G (.str x) e = true → PE X e (TDE X.K (ev G cl (.str x))) ∧ PT X e (TDT X.K (ev G cl (.str x))) := fun e h => by
    cases e <;> first | exact absurd (show false = true from h) Bool.false_ne_true | skip
    rename_i k j pos
    cases k <;> first | exact absurd (show false = true from h) Bool.false_ne_true | skip
    rename_i x'
    have h' : (x == x') = true := h
    simp only [beq_iff_eq] at h'
    subst h'
    have p : PE X (.Constant (.str x) j pos) (TDE X.K (ev G cl (.str x))) := (pe_str).wk fun s H Q ⟨m, r, hh, d, h', w, st, e1, c⟩ => by
      cases e1
      exact c m _ H Gr.refl w (.str x)
    exact ⟨p, tOf p fun _ => rfl⟩
  exact ⟨fun e h => (p e h).1, fun e h => (p e h).2⟩
theorem kE_gc {G : Gs} {ca : Nat → Addr} {cl : Cl} (g : Nat)  : IE G ca cl (.gc g) := fun X N sc xo go => by
  have p : ∀ e, chk N sc G (.gc g) e = true → PE X e (TDE X.K (ev G cl (.gc g))) ∧ PT X e (TDT X.K (ev G cl (.gc g))) := fun e h => by
    cases e <;> first | exact absurd (show false = true from h) Bool.false_ne_true | skip
    rename_i x pos
    have h' : ((G.csts[g]?).map (·.1) == some x && glB sc x && noDbg x) = true := h
    simp only [Bool.and_eq_true, beq_iff_eq] at h'
    obtain ⟨d1, d2, d3⟩ := noDbg_ok h'.2
    cases q : G.csts[g]? with
    | none => rw [q] at h'; cases h'.1.1
    | some y =>
      rw [q] at h'
      obtain ⟨y1, y2⟩ := y
      have ex : y1 = x := Option.some.inj h'.1.1
      subst ex
      obtain ⟨v, u, hm, rv, rd⟩ := go.cst g y1 y2 q
      have p : PE X (.Name y1 pos) (TDE X.K (ev G cl (.gc g))) := (pe_glob (glB_ok xo h'.1.2) hm rv d1).wk fun s H Q ⟨m, r, hh, d, h', w, st, e1, c⟩ => by
        simp only [ev, q] at e1
        cases e1
        exact c m _ H Gr.refl w (rd m H)
      exact ⟨p, tOf p fun _ => rfl⟩
  exact ⟨fun e h => (p e h).1, fun e h => (p e h).2⟩
theorem kE_ty {G : Gs} {ca : Nat → Addr} {cl : Cl} (t : Ty)  : IE G ca cl (.ty t) := fun X N sc xo go => by
  have p : ∀ e, chk N sc G (.ty t) e = true → PE X e (TDE X.K (ev G cl (.ty t))) ∧ PT X e (TDT X.K (ev G cl (.ty t))) := fun e h => by
    cases e <;> first | exact absurd (show false = true from h) Bool.false_ne_true | skip
    rename_i x pos
    have h' : (x == Str.ofString t.nm && glB sc x) = true := h
    simp only [Bool.and_eq_true, beq_iff_eq] at h'
    obtain ⟨rfl, hg⟩ := h'
    have p : PE X (.Name (Str.ofString t.nm) pos) (TDE X.K (ev G cl (.ty t))) := (pe_bltn (v := .ty t.nm) (glB_ok xo hg) (go.ty t) (boot_ty t) rfl (ty_dbg t).2 (ty_dbg t).1).wk fun s H Q ⟨m, r, hh, d, h', w, st, e1, c⟩ => by
      cases e1
      exact c m _ H Gr.refl w (.ty _)
    exact ⟨p, tOf p fun _ => rfl⟩
  exact ⟨fun e h => (p e h).1, fun e h => (p e h).2⟩
theorem kE_bin {G : Gs} {ca : Nat → Addr} {cl : Cl} (op : Bop) (a b : E) (ih_a : IE G ca cl a) (ih_b : IE G ca cl b) : IE G ca cl (.bin op a b) := fun X N sc xo go => by
  have p : ∀ e, chk N sc G (.bin op a b) e = true → PE X e (TDE X.K (ev G cl (.bin op a b))) ∧ PT X e (TDT X.K (ev G cl (.bin op a b))) := fun e h => by
    cases e <;> first | exact absurd (show false = true from h) Bool.false_ne_true | skip
    rename_i x o y pos
    have h' : (op.op == o && chk N sc G a x && chk N sc G b y) = true := h
    simp only [Bool.and_eq_true, beq_iff_eq] at h'
    obtain ⟨⟨rfl, h1⟩, h2⟩ := h'
    have p : PE X (.BinOp x op.op y pos) (TDE X.K (ev G cl (.bin op a b))) := (pe_op (opBin op) ((ih_a _ _ _ xo go).1 x h1) ((ih_b _ _ _ xo go).1 y h2)).wk (TDE.op fun r h => by simp only [ev])
    exact ⟨p, tOf p fun _ => rfl⟩
  exact ⟨fun e h => (p e h).1, fun e h => (p e h).2⟩
theorem kE_neg {G : Gs} {ca : Nat → Addr} {cl : Cl} (a : E) (ih_a : IE G ca cl a) : IE G ca cl (.neg a) := fun X N sc xo go => by
  have p : ∀ e, chk N sc G (.neg a) e = true → PE X e (TDE X.K (ev G cl (.neg a))) ∧ PT X e (TDT X.K (ev G cl (.neg a))) := fun e h => by
    cases e <;> first | exact absurd (show false = true from h) Bool.false_ne_true | skip
    rename_i o x pos
    cases o <;> first | exact absurd (show false = true from h) Bool.false_ne_true | skip
    have p : PE X (.UnaryOp .USub x pos) (TDE X.K (ev G cl (.neg a))) := (pe_un un_neg ((ih_a _ _ _ xo go).1 x h)).wk fun s H Q q => by
      refine TDE.one (fun _ _ => rfl) q fun m m2 r d h2 h' H2 dx y st g w2 st2 rx e c => ?_
      cases rx <;> first | (cases e; done) | skip
      cases e
      exact ⟨_, rfl, c m2 _ H2 Gr.refl w2 (.int _)⟩
    exact ⟨p, tOf p fun _ => rfl⟩
  exact ⟨fun e h => (p e h).1, fun e h => (p e h).2⟩
theorem kE_cmp {G : Gs} {ca : Nat → Addr} {cl : Cl} (op : Cop) (a b : E) (ih_a : IE G ca cl a) (ih_b : IE G ca cl b) : IE G ca cl (.cmp op a b) := fun X N sc xo go => by
  have p : ∀ e, chk N sc G (.cmp op a b) e = true → PE X e (TDE X.K (ev G cl (.cmp op a b))) ∧ PT X e (TDT X.K (ev G cl (.cmp op a b))) := fun e h => by
    cases e <;> first | exact absurd (show false = true from h) Bool.false_ne_true | skip
    rename_i x os ys pos
    obtain ⟨o, rfl⟩ : ∃ o, os = [o] := by
      cases os with
      | nil => exact absurd (show false = true from h) Bool.false_ne_true
      | cons o r =>
        cases r with
        | nil => exact ⟨o, rfl⟩
        | cons _ _ => exact absurd (show false = true from h) Bool.false_ne_true
    obtain ⟨y, rfl⟩ : ∃ y, ys = [y] := by
      cases ys with
      | nil => exact absurd (show false = true from h) Bool.false_ne_true
      | cons o r =>
        cases r with
        | nil => exact ⟨o, rfl⟩
        | cons _ _ => exact absurd (show false = true from h) Bool.false_ne_true
    have h' : (op.op == o && noSet y && chk N sc G a x && chk N sc G b y) = true := h
    simp only [Bool.and_eq_true, beq_iff_eq] at h'
    obtain ⟨⟨⟨rfl, h0⟩, h1⟩, h2⟩ := h'
    have hm : behindInMarks op.op y = false := by cases y <;> first | rfl | (cases h0; done)
    refine ⟨(pe_cmpR (opCmp xo.room op) ((ih_a _ _ _ xo go).1 x h1) ((ih_b _ _ _ xo go).1 y h2) hm).wk (TDE.op fun r h => by simp only [ev]), ?_⟩
    refine (pt_cmpR (opCmp xo.room op) ((ih_a _ _ _ xo go).1 x h1) ((ih_b _ _ _ xo go).1 y h2) hm).wk fun s H Q ⟨m, r, hh, d, h', k, w, st, e1, ek, c⟩ => ?_
    refine TDE.op (f := ev G cl (.cmp op a b)) (k := cmpD op) (fun r h => by simp only [ev]) s H _ ⟨m, r, hh, d, h', w, st, e1, fun m' v H' g w' rd => ?_⟩
    have e1' := e1
    simp only [ev] at e1'
    obtain ⟨_, _, _, e1'⟩ := Rs.bind_ok e1'
    obtain ⟨_, _, _, e1'⟩ := Rs.bind_ok e1'
    obtain ⟨k', rfl⟩ := cmpD_bl e1'
    cases rd
    have ek' : k' = k := Option.some.inj ek
    subst ek'
    exact ⟨k', rfl, c m' H' g w'⟩
  exact ⟨fun e h => (p e h).1, fun e h => (p e h).2⟩
theorem kE_and {G : Gs} {ca : Nat → Addr} {cl : Cl} (a b : E) (ih_a : IE G ca cl a) (ih_b : IE G ca cl b) : IE G ca cl (.and a b) := fun X N sc xo go => by
  have p : ∀ e, chk N sc G (.and a b) e = true → PE X e (TDE X.K (ev G cl (.and a b))) ∧ PT X e (TDT X.K (ev G cl (.and a b))) := fun e h => by
    cases e <;> first | exact absurd (show false = true from h) Bool.false_ne_true | skip
    rename_i o vs pos
    cases o <;> first | exact absurd (show false = true from h) Bool.false_ne_true | skip
    cases vs with
    | nil => exact absurd (show false = true from h) Bool.false_ne_true
    | cons x vs =>
      cases vs with
      | nil => exact absurd (show false = true from h) Bool.false_ne_true
      | cons y rest =>
        have h1 : chk N sc G a x = true := by
          have h' : (chk N sc G a x && _) = true := h
          simp only [Bool.and_eq_true] at h'
          exact h'.1
        have hb : PE X (.BoolOp .And (y :: rest) pos) (TDE X.K (ev G cl b)) ∧ PT X (.BoolOp .And (y :: rest) pos) (TDT X.K (ev G cl b)) := by
          cases rest with
          | nil =>
            have h' : (chk N sc G a x && chk N sc G b y) = true := h
            simp only [Bool.and_eq_true] at h'
            exact ⟨pe_one ((ih_b _ _ _ xo go).1 y h'.2), (pw_and1 ((ih_b _ _ _ xo go).2 y h'.2)).pt⟩
          | cons z rest =>
            have h' : (chk N sc G a x && chk N sc G b (.BoolOp .And (y :: z :: rest) pos)) = true := h
            simp only [Bool.and_eq_true] at h'
            exact ⟨(ih_b _ _ _ xo go).1 _ h'.2, (ih_b _ _ _ xo go).2 _ h'.2⟩
        refine ⟨(pe_andG ((ih_a _ _ _ xo go).1 x h1) hb.1).wk fun s H Q q => ?_, (pw_and ((ih_a _ _ _ xo go).2 x h1) (pw_of hb.2)).pt.wk fun s H Q q => ?_⟩
        · refine TDE.one (fun _ _ => rfl) q fun m m2 r d h2 h' H2 dx v st g w2 st2 rx e c => ?_
          split at e
          · rename_i et
            exact ⟨true, truRel w2 rx et, iteT (⟨m2, r, h2, d, h', w2, st2, e, c⟩)⟩
          · rename_i et
            cases e
            exact ⟨false, truRel w2 rx et, iteF (c m2 v H2 Gr.refl w2 rx)⟩
          · cases e
        · obtain ⟨m, r, hh, d, h', k, w, st, e1, ek, c⟩ := q
          simp only [ev] at e1
          obtain ⟨dx, h1, e0, e1⟩ := Rs.bind_ok e1
          split at e1
          · rename_i et
            exact ⟨m, r, hh, dx, h1, true, w, st, e0, et, fun m' H' g w' => iteT (⟨m', r, h1, d, h', k, w', st.mono g, e1, ek, fun m2 H2 g2 => c m2 H2 (g.trans g2)⟩)⟩
          · rename_i et
            cases e1
            rw [et] at ek
            cases ek
            exact ⟨m, r, hh, _, _, false, w, st, e0, et, fun m' H' g w' => iteF (c m' H' g w')⟩
          · cases e1
  exact ⟨fun e h => (p e h).1, fun e h => (p e h).2⟩
theorem kE_or {G : Gs} {ca : Nat → Addr} {cl : Cl} (a b : E) (ih_a : IE G ca cl a) (ih_b : IE G ca cl b) : IE G ca cl (.or a b) := fun X N sc xo go => by
  have p : ∀ e, chk N sc G (.or a b) e = true → PE X e (TDE X.K (ev G cl (.or a b))) ∧ PT X e (TDT X.K (ev G cl (.or a b))) := fun e h => by
    cases e <;> first | exact absurd (show false = true from h) Bool.false_ne_true | skip
    rename_i o vs pos
    cases o <;> first | exact absurd (show false = true from h) Bool.false_ne_true | skip
    cases vs with
    | nil => exact absurd (show false = true from h) Bool.false_ne_true
    | cons x vs =>
      cases vs with
      | nil => exact absurd (show false = true from h) Bool.false_ne_true
      | cons y rest =>
        have h1 : chk N sc G a x = true := by
          have h' : (chk N sc G a x && _) = true := h
          simp only [Bool.and_eq_true] at h'
          exact h'.1
        have hb : PE X (.BoolOp .Or (y :: rest) pos) (TDE X.K (ev G cl b)) ∧ PT X (.BoolOp .Or (y :: rest) pos) (TDT X.K (ev G cl b)) := by
          cases rest with
          | nil =>
            have h' : (chk N sc G a x && chk N sc G b y) = true := h
            simp only [Bool.and_eq_true] at h'
            exact ⟨pe_one ((ih_b _ _ _ xo go).1 y h'.2), (pw_or1 ((ih_b _ _ _ xo go).2 y h'.2)).pt⟩
          | cons z rest =>
            have h' : (chk N sc G a x && chk N sc G b (.BoolOp .Or (y :: z :: rest) pos)) = true := h
            simp only [Bool.and_eq_true] at h'
            exact ⟨(ih_b _ _ _ xo go).1 _ h'.2, (ih_b _ _ _ xo go).2 _ h'.2⟩
        refine ⟨(pe_orG ((ih_a _ _ _ xo go).1 x h1) hb.1).wk fun s H Q q => ?_, (pw_or ((ih_a _ _ _ xo go).2 x h1) (pw_of hb.2)).pt.wk fun s H Q q => ?_⟩
        · refine TDE.one (fun _ _ => rfl) q fun m m2 r d h2 h' H2 dx v st g w2 st2 rx e c => ?_
          split at e
          · rename_i et
            cases e
            exact ⟨true, truRel w2 rx et, iteT (c m2 v H2 Gr.refl w2 rx)⟩
          · rename_i et
            exact ⟨false, truRel w2 rx et, iteF (⟨m2, r, h2, d, h', w2, st2, e, c⟩)⟩
          · cases e
        · obtain ⟨m, r, hh, d, h', k, w, st, e1, ek, c⟩ := q
          simp only [ev] at e1
          obtain ⟨dx, h1, e0, e1⟩ := Rs.bind_ok e1
          split at e1
          · rename_i et
            cases e1
            rw [et] at ek
            cases ek
            exact ⟨m, r, hh, _, _, true, w, st, e0, et, fun m' H' g w' => iteT (c m' H' g w')⟩
          · rename_i et
            exact ⟨m, r, hh, dx, h1, false, w, st, e0, et, fun m' H' g w' => iteF (⟨m', r, h1, d, h', k, w', st.mono g, e1, ek, fun m2 H2 g2 => c m2 H2 (g.trans g2)⟩)⟩
          · cases e1
  exact ⟨fun e h => (p e h).1, fun e h => (p e h).2⟩
theorem kE_not {G : Gs} {ca : Nat → Addr} {cl : Cl} (a : E) (ih_a : IE G ca cl a) : IE G ca cl (.not a) := fun X N sc xo go => by
  have p : ∀ e, chk N sc G (.not a) e = true → PE X e (TDE X.K (ev G cl (.not a))) ∧ PT X e (TDT X.K (ev G cl (.not a))) := fun e h => by
    cases e <;> first | exact absurd (show false = true from h) Bool.false_ne_true | skip
    rename_i o x pos
    cases o <;> first | exact absurd (show false = true from h) Bool.false_ne_true | skip
    refine ⟨(pe_notG ((ih_a _ _ _ xo go).1 x h)).wk fun s H Q q => ?_, (pt_not ((ih_a _ _ _ xo go).2 x h)).wk fun s H Q q => ?_⟩
    · refine TDE.one (fun _ _ => rfl) q fun m m2 r d h2 h' H2 dx v st g w2 st2 rx e c => ?_
      split at e
      · rename_i k et
        cases e
        exact ⟨k, truRel w2 rx et, c m2 _ H2 Gr.refl w2 (.bl _)⟩
      · cases e
    · obtain ⟨m, r, hh, d, h', k, w, st, e1, ek, c⟩ := q
      simp only [ev] at e1
      obtain ⟨dx, h1, e0, e1⟩ := Rs.bind_ok e1
      split at e1
      · rename_i k' et
        cases e1
        have : (!k') = k := Option.some.inj ek
        subst this
        exact ⟨m, r, hh, dx, h', k', w, st, e0, et, c⟩
      · cases e1
  exact ⟨fun e h => (p e h).1, fun e h => (p e h).2⟩
theorem kE_ite {G : Gs} {ca : Nat → Addr} {cl : Cl} (cc a b : E) (ih_cc : IE G ca cl cc) (ih_a : IE G ca cl a) (ih_b : IE G ca cl b) : IE G ca cl (.ite cc a b) := fun X N sc xo go => by
  have p : ∀ e, chk N sc G (.ite cc a b) e = true → PE X e (TDE X.K (ev G cl (.ite cc a b))) ∧ (e.pos = e.pos → ∃ z x y pos, e = .IfExp z x y pos ∧ chk N sc G cc z = true ∧ chk N sc G a x = true ∧ chk N sc G b y = true) := fun e h => by
    cases e <;> first | exact absurd (show false = true from h) Bool.false_ne_true | skip
    rename_i z x y pos
    have h' : (chk N sc G cc z && chk N sc G a x && chk N sc G b y) = true := h
    simp only [Bool.and_eq_true] at h'
    refine ⟨(pe_ifExp ((ih_cc _ _ _ xo go).2 z h'.1.1) ((ih_a _ _ _ xo go).1 x h'.1.2) ((ih_b _ _ _ xo go).1 y h'.2)).wk fun s H Q ⟨m, r, hh, d, h', w, st, e1, c⟩ => ?_, fun _ => ⟨z, x, y, pos, rfl, h'.1.1, h'.1.2, h'.2⟩⟩
    simp only [ev] at e1
    obtain ⟨dx, h1, e0, e1⟩ := Rs.bind_ok e1
    split at e1
    · rename_i et
      exact ⟨m, r, hh, dx, h1, true, w, st, e0, et, fun m' H' g w' => iteT (⟨m', r, h1, d, h', w', st.mono g, e1, fun m2 v H2 g2 => c m2 v H2 (g.trans g2)⟩)⟩
    · rename_i et
      exact ⟨m, r, hh, dx, h1, false, w, st, e0, et, fun m' H' g w' => iteF (⟨m', r, h1, d, h', w', st.mono g, e1, fun m2 v H2 g2 => c m2 v H2 (g.trans g2)⟩)⟩
    · cases e1
  refine ⟨fun e h => (p e h).1, fun e h => ?_⟩
  obtain ⟨z, x, y, pos, rfl, hz, hx, hy⟩ := (p e h).2 rfl
  intro pins s σ H Q I ⟨m, r, hh, d, h', k, w, st, e1, ek, c⟩
  simp only [ev] at e1
  obtain ⟨dx, h1, e0, e1⟩ := Rs.bind_ok e1
  have hz' := (ih_cc _ _ _ xo go).2 z hz
  have hx' := (ih_a _ _ _ xo go).2 x hx
  have hy' := (ih_b _ _ _ xo go).2 y hy
  show wpAny _ _ (do if ← isTrue z X.env (eval z X.env) then isTrue x X.env (eval x X.env) else isTrue y X.env (eval y X.env)) _ _ _
  split at e1
  · rename_i et
    refine wpAny_bind (thn (hz' pins s σ H (fun kb H1 => kb = true ∧ TDT X.K (ev G cl a) σ H1 Q) I ⟨m, r, hh, dx, h1, true, w, st, e0, et, fun m' H' g w' => ⟨rfl, m', r, h1, d, h', k, w', st.mono g, e1, ek, fun m2 H2 g2 => c m2 H2 (g.trans g2)⟩⟩) fun kb s1 ⟨H1, I1, eb, q1⟩ => ?_)
    subst eb
    exact hx' pins s1 σ H1 Q I1 q1
  · rename_i et
    refine wpAny_bind (thn (hz' pins s σ H (fun kb H1 => kb = false ∧ TDT X.K (ev G cl b) σ H1 Q) I ⟨m, r, hh, dx, h1, false, w, st, e0, et, fun m' H' g w' => ⟨rfl, m', r, h1, d, h', k, w', st.mono g, e1, ek, fun m2 H2 g2 => c m2 H2 (g.trans g2)⟩⟩) fun kb s1 ⟨H1, I1, eb, q1⟩ => ?_)
    subst eb
    exact hy' pins s1 σ H1 Q I1 q1
  · cases e1
theorem kE_ix {G : Gs} {ca : Nat → Addr} {cl : Cl} (a b : E) (ih_a : IE G ca cl a) (ih_b : IE G ca cl b) : IE G ca cl (.ix a b) := fun X N sc xo go => by
  have p : ∀ e, chk N sc G (.ix a b) e = true → PE X e (TDE X.K (ev G cl (.ix a b))) ∧ PT X e (TDT X.K (ev G cl (.ix a b))) := fun e h => by
    cases e <;> first | exact absurd (show false = true from h) Bool.false_ne_true | skip
    rename_i x y pos
    have h' : (noSlice y && chk N sc G a x && chk N sc G b y) = true := h
    simp only [Bool.and_eq_true] at h'
    have hs : PlainIx y := fun o i => by
      have h0 := h'.1.1
      cases y <;> first | rfl | (cases h0; done)
    have p : PE X (.Subscript x y pos) (TDE X.K (ev G cl (.ix a b))) := (pe_ix (ixSeq xo.room) ((ih_a _ _ _ xo go).1 x h'.1.2) ((ih_b _ _ _ xo go).1 y h'.2) hs).wk (TDE.op fun r h => by simp only [ev])
    exact ⟨p, tOf p fun _ => rfl⟩
  exact ⟨fun e h => (p e h).1, fun e h => (p e h).2⟩
theorem kE_tup {G : Gs} {ca : Nat → Addr} {cl : Cl} (l : Es) (ia_l : IA G ca cl l) : IE G ca cl (.tup l) := fun X N sc xo go => by
  have p : ∀ e, chk N sc G (.tup l) e = true → PE X e (TDE X.K (ev G cl (.tup l))) ∧ PT X e (TDT X.K (ev G cl (.tup l))) := fun e h => by
    cases e <;> first | exact absurd (show false = true from h) Bool.false_ne_true | skip
    rename_i es k pos
    have p : PE X (.Tuple es k pos) (TDE X.K (ev G cl (.tup l))) := (pe_tup (ia_l _ _ _ xo go es h)).wk fun s H Q ⟨m, r, hh, d, h', w, st, e1, c⟩ => by
      simp only [ev] at e1
      obtain ⟨ds, h1, e0, e1⟩ := Rs.bind_ok e1
      split at e1
      · rename_i hl
        cases e1
        refine ⟨m, r, hh, ds, _, w, st, e0, fun m' vs H' g w' rd => ⟨?_, fun q hq => ?_⟩⟩
        · rw [← rd.length]; exact Nat.le_of_lt (small1000 hl)
        · exact c m' _ _ (g.trans (Gr.tupNew hq)) (w'.keepNew hq) (.tup (.of upd_same) (rd.mono (Gr.tupNew hq)))
      · cases e1
    exact ⟨p, tOf p fun _ => rfl⟩
  exact ⟨fun e h => (p e h).1, fun e h => (p e h).2⟩
theorem kE_lst {G : Gs} {ca : Nat → Addr} {cl : Cl} (l : Es) (ia_l : IA G ca cl l) : IE G ca cl (.lst l) := fun X N sc xo go => by
  have p : ∀ e, chk N sc G (.lst l) e = true → PE X e (TDE X.K (ev G cl (.lst l))) ∧ PT X e (TDT X.K (ev G cl (.lst l))) := fun e h => by
    cases e <;> first | exact absurd (show false = true from h) Bool.false_ne_true | skip
    rename_i es pos
    have p : PE X (.List es pos) (TDE X.K (ev G cl (.lst l))) := (pe_lst (ia_l _ _ _ xo go es h)).wk fun s H Q ⟨m, r, hh, d, h', w, st, e1, c⟩ => by
      simp only [ev] at e1
      obtain ⟨ds, h1, e0, e1⟩ := Rs.bind_ok e1
      split at e1
      · rename_i hl
        cases e1
        refine ⟨m, r, hh, ds, _, w, st, e0, fun m' vs H' g w' rd => ⟨?_, fun q hq => ?_⟩⟩
        · rw [← rd.length]; exact Nat.le_of_lt (small1000 hl)
        · obtain ⟨w2, g2⟩ := w'.lstNew hq rd
          exact c _ _ _ (g.trans g2) w2 (.ref (by rw [← w'.len]; simp))
      · cases e1
    exact ⟨p, tOf p fun _ => rfl⟩
  exact ⟨fun e h => (p e h).1, fun e h => (p e h).2⟩
theorem kE_call {G : Gs} {ca : Nat → Addr} {cl : Cl} (f : Nat) (l : Es) (ia_l : IA G ca cl l) : IE G ca cl (.call f l) := fun X N sc xo go => by
  have p : ∀ e, chk N sc G (.call f l) e = true → PE X e (TDE X.K (ev G cl (.call f l))) ∧ PT X e (TDT X.K (ev G cl (.call f l))) := fun e h => by
    cases e <;> first | exact absurd (show false = true from h) Bool.false_ne_true | skip
    rename_i fe es kw pos
    cases fe <;> first | exact absurd (show false = true from h) Bool.false_ne_true | skip
    rename_i x np
    cases es with
    | nil => exact absurd (show false = true from h) Bool.false_ne_true
    | cons y ys =>
      cases kw with
      | cons => exact absurd (show false = true from h) Bool.false_ne_true
      | nil =>
        have h' : (G.fns[f]? == some x && glB sc x && noDbg x && chks N sc G l (y :: ys)) = true := h
        simp only [Bool.and_eq_true, beq_iff_eq] at h'
        obtain ⟨⟨⟨h1, h2⟩, h3⟩, h4⟩ := h'
        obtain ⟨d1, d2, d3⟩ := noDbg_ok h3
        obtain ⟨fa, fd, ps, k, F, hr, hm, hk, hb, hlen⟩ := go.fn f x h1
        have h5 : noStar y = true ∧ ∃ l', chks N sc G l' ys = true := by
          cases l with
          | nil => exact absurd (show false = true from h4) Bool.false_ne_true
          | cons c l' =>
            have h6 : (noStar y && chk N sc G c y && chks N sc G l' ys) = true := h4
            simp only [Bool.and_eq_true] at h6
            exact ⟨h6.1.1, l', h6.2⟩
        obtain ⟨h5, l', h6⟩ := h5
        have p : PE X (.Call (.Name x np) (y :: ys) [] pos) (TDE X.K (ev G cl (.call f l))) := (pe_call F hr (glB_ok xo h2) hm hk hb .nil pass1 (ia_l _ _ _ xo go (y :: ys) h4) d1 (star_one ys h5) (back_none pos h6)).wk fun s H Q ⟨m, r, hh, d, h', w, st, e1, c⟩ => by
          simp only [ev] at e1
          obtain ⟨ds, h1, e0, e1⟩ := Rs.bind_ok e1
          have e1 := Rs.nx_ok e1
          refine ⟨m, r, hh, ds, h1, w, st, e0, fun m' vs H' g w' rd => ?_⟩
          show spD X.K ca (cl f) ps.length (vs ++ []) H' Q E0
          rw [List.append_nil]
          exact ⟨by rw [← rd.length]; exact hlen _ _ (by rw [e1]; exact fun z => nomatch z), m', h1, ds, w', rd, by rw [e1]; exact fun m2 v H2 g2 => c m2 v H2 (g.trans g2)⟩
        exact ⟨p, tOf p fun _ => rfl⟩
  exact ⟨fun e h => (p e h).1, fun e h => (p e h).2⟩
theorem kE_blt {G : Gs} {ca : Nat → Addr} {cl : Cl} (f : Blt) (l : Es) (ia_l : IA G ca cl l) : IE G ca cl (.blt f l) := fun X N sc xo go => by
  have p : ∀ e, chk N sc G (.blt f l) e = true → PE X e (TDE X.K (ev G cl (.blt f l))) ∧ PT X e (TDT X.K (ev G cl (.blt f l))) := fun e h => by
    cases e <;> first | exact absurd (show false = true from h) Bool.false_ne_true | skip
    rename_i fe es kw pos
    cases fe <;> first | exact absurd (show false = true from h) Bool.false_ne_true | skip
    rename_i x np
    cases es with
    | nil => exact absurd (show false = true from h) Bool.false_ne_true
    | cons y ys =>
      cases kw with
      | cons => exact absurd (show false = true from h) Bool.false_ne_true
      | nil =>
        have h' : (x == f.nm && glB sc x && chks N sc G l (y :: ys)) = true := h
        simp only [Bool.and_eq_true, beq_iff_eq] at h'
        obtain ⟨⟨rfl, h2⟩, h4⟩ := h'
        obtain ⟨d1, d3⟩ := blt_dbg f
        have h5 : noStar y = true ∧ ∃ l', chks N sc G l' ys = true := by
          cases l with
          | nil => exact absurd (show false = true from h4) Bool.false_ne_true
          | cons c l' =>
            have h6 : (noStar y && chk N sc G c y && chks N sc G l' ys) = true := h4
            simp only [Bool.and_eq_true] at h6
            exact ⟨h6.1.1, l', h6.2⟩
        obtain ⟨h5, l', h6⟩ := h5
        have im : ∀ s H Q, TDE X.K (ev G cl (.blt f l)) s H Q → tCB (rDc X.K (bltD f)) (TDA X.K (evs G cl l)) s H Q := fun s H Q ⟨m, r, hh, d, h', w, st, e1, c⟩ => by
          simp only [ev] at e1
          obtain ⟨ds, h1, e0, e1⟩ := Rs.bind_ok e1
          exact ⟨m, r, hh, ds, h1, w, st, e0, fun m' vs H' g w' rd => ⟨m', h1, ds, d, h', w', rd, e1, fun m2 v H2 g2 => c m2 v H2 (g.trans g2)⟩⟩
        have p : PE X (.Call (.Name f.nm np) (y :: ys) [] pos) (TDE X.K (ev G cl (.blt f l))) := by
          have cb := callBlt (X := X) xo.calm f
          have bb := boot_blt f
          have key : ∀ v, f.val = v → (∃ i, v = .builtin i) ∨ (∃ T, v = .type T) := fun v e => by subst e; cases f <;> first | exact .inl ⟨_, rfl⟩ | exact .inr ⟨_, rfl⟩
          rcases key _ rfl with ⟨i, ei⟩ | ⟨T, eT⟩
          · rw [ei] at cb bb
            exact (pe_callB cb (glB_ok xo h2) (go.blt f) bb (ia_l _ _ _ xo go (y :: ys) h4) d3 d1 (star_one ys h5) (back_none pos h6)).wk im
          · rw [eT] at cb bb
            exact (pe_callTy cb (glB_ok xo h2) (go.blt f) bb (ia_l _ _ _ xo go (y :: ys) h4) d3 d1 (star_one ys h5) (back_none pos h6)).wk im
        exact ⟨p, tOf p fun _ => rfl⟩
  exact ⟨fun e h => (p e h).1, fun e h => (p e h).2⟩
theorem kE_app {G : Gs} {ca : Nat → Addr} {cl : Cl} (o a : E) (ih_o : IE G ca cl o) (ih_a : IE G ca cl a) : IE G ca cl (.app o a) := fun X N sc xo go => by
  have p : ∀ e, chk N sc G (.app o a) e = true → PE X e (TDE X.K (ev G cl (.app o a))) ∧ PT X e (TDT X.K (ev G cl (.app o a))) := fun e h => by
    cases e <;> first | exact absurd (show false = true from h) Bool.false_ne_true | skip
    rename_i fe es kw cp
    cases fe <;> first | exact absurd (show false = true from h) Bool.false_ne_true | skip
    rename_i x nm ap
    cases es with
    | nil => exact absurd (show false = true from h) Bool.false_ne_true
    | cons y ys =>
      cases ys with
      | cons => exact absurd (show false = true from h) Bool.false_ne_true
      | nil =>
        cases kw with
        | cons => exact absurd (show false = true from h) Bool.false_ne_true
        | nil =>
          have h' : (nm == ("append" : Str) && (ap.endLine == cp.line) && noStar y && isVar o && chk N sc G o x && chk N sc G a y) = true := h
          simp only [Bool.and_eq_true] at h'
          obtain ⟨⟨⟨⟨⟨h1, h2⟩, h3⟩, h4⟩, h5⟩, h6⟩ := h'
          have h1' : nm = "append" := by simpa using h1
          subst h1'
          have ho := (ih_o _ _ _ xo go).1 x h5
          have hx : ∃ z p, x = .Name z p := by
            cases o <;> first | (cases h4; done) | skip
            cases x <;> first | exact absurd (show false = true from h5) Bool.false_ne_true | exact ⟨_, _, rfl⟩
          obtain ⟨z, pz, rfl⟩ := hx
          have hA : PA X [y] (tCons (TDE X.K (ev G cl a)) tNil) := pa_cons ((ih_a _ _ _ xo go).1 y h6) pa_nil (star_one [] h3)
          have p : PE X (.Call (.Attribute (.Name z pz) "append" ap) [y] [] cp) (TDE X.K (ev G cl (.app o a))) := (pe_bm PySem.F.plainAttrs_list PySem.F.slot_list_append PySem.F.type_list_append mt_append ho hA rfl (by rw [star_one [] h3]; rfl) h2 (star_one [] h3) rfl).wk fun s H Q q => by
            refine TDE.one (fun _ _ => rfl) q fun m m2 r d h2 h' H2 dx v st g w2 st2 rx e c => ?_
            split at e
            · rename_i hl
              obtain ⟨dy, h3, e3, e⟩ := Rs.bind_ok e
              cases rx <;> first | (cases e; done) | skip
              case ref n a' ha eb =>
                simp only [appD] at e
                split at e <;> first | (cases e; done) | skip
                rename_i l el
                split at e <;> first | (cases e; done) | skip
                rename_i hz
                cases e
                have hl' : ∃ l0, lstAt h2 n = some l0 := Option.isSome_iff_exists.mp hl
                obtain ⟨l0, hl'⟩ := hl'
                obtain ⟨a'', vs0, ha'', hq, _⟩ := w2.lst hl'
                rw [ha] at ha''; cases ha''
                refine ⟨.inl ⟨rfl, vs0, hq⟩, m2, r, h2, dy, h3, w2, st2, e3, fun m3 y' H3 g3 w3 ry => ?_⟩
                have ha3 := g3.pre _ _ ha
                obtain ⟨vs, hv, rv⟩ : ∃ vs, H3 a' = some (.lst vs) ∧ RDs X.K m3 H3 l vs := w3.ob n _ a' el ha3
                obtain ⟨_, w4, g4⟩ := w3.lstSet el ha3 (rv.append (.cons ry .nil))
                exact ⟨a', vs, y', rfl, rfl, hv, by rw [← rv.length]; exact Nat.lt_of_lt_of_le hz (by decide), c m3 _ _ (g3.trans g4) w4 .non⟩
            · cases e
          exact ⟨p, tOf p fun _ => rfl⟩
  exact ⟨fun e h => (p e h).1, fun e h => (p e h).2⟩
theorem RDs.take' {K : PySem.W.Frag} {m : List Addr} {H : Hp} : ∀ {ds : List D} {vs : List V}, RDs K m H ds vs → ∀ k : Nat, RDs K m H (ds.take k) (vs.take k)
  | _, _, .nil, k => by cases k <;> exact .nil
  | _, _, .cons r rs, 0 => .nil
  | _, _, .cons r rs, k + 1 => .cons r (RDs.take' rs k)
theorem RDs.drop' {K : PySem.W.Frag} {m : List Addr} {H : Hp} : ∀ {ds : List D} {vs : List V}, RDs K m H ds vs → ∀ k : Nat, RDs K m H (ds.drop k) (vs.drop k)
  | _, _, .nil, k => by cases k <;> exact .nil
  | _, _, .cons r rs, 0 => .cons r rs
  | _, _, .cons r rs, k + 1 => RDs.drop' rs k
theorem kE_ins {G : Gs} {ca : Nat → Addr} {cl : Cl} (o i a : E) (ih_o : IE G ca cl o) (ih_i : IE G ca cl i) (ih_a : IE G ca cl a) : IE G ca cl (.ins o i a) := fun X N sc xo go => by
  have p : ∀ e, chk N sc G (.ins o i a) e = true → PE X e (TDE X.K (ev G cl (.ins o i a))) ∧ PT X e (TDT X.K (ev G cl (.ins o i a))) := fun e h => by
    cases e <;> first | exact absurd (show false = true from h) Bool.false_ne_true | skip
    rename_i fe es kw cp
    cases fe <;> first | exact absurd (show false = true from h) Bool.false_ne_true | skip
    rename_i x nm ap
    rcases es with _ | ⟨y, _ | ⟨z, _ | ⟨z2, zs⟩⟩⟩ <;> rcases kw with _ | ⟨kk, kw⟩ <;> first | exact absurd (show false = true from h) Bool.false_ne_true | skip
    have h' : (nm == ("insert" : Str) && (ap.endLine == cp.line) && noStar y && noStar z && isVar o && chk N sc G o x && chk N sc G i y && chk N sc G a z) = true := h
    simp only [Bool.and_eq_true] at h'
    obtain ⟨⟨⟨⟨⟨⟨⟨h1, h2⟩, h3⟩, h3'⟩, h4⟩, h5⟩, h6⟩, h7⟩ := h'
    have h1' : nm = "insert" := by simpa using h1
    subst h1'
    have ho := (ih_o _ _ _ xo go).1 x h5
    have hx : ∃ z p, x = .Name z p := by
      cases o <;> first | (cases h4; done) | skip
      cases x <;> first | exact absurd (show false = true from h5) Bool.false_ne_true | exact ⟨_, _, rfl⟩
    obtain ⟨nz, pz, rfl⟩ := hx
    have hA : PA X [y, z] (tCons (TDE X.K (ev G cl i)) (tCons (TDE X.K (ev G cl a)) tNil)) := pa_cons ((ih_i _ _ _ xo go).1 y h6) (pa_cons ((ih_a _ _ _ xo go).1 z h7) pa_nil (star_one [] h3')) (star_one [z] h3)
    have p : PE X (.Call (.Attribute (.Name nz pz) "insert" ap) [y, z] [] cp) (TDE X.K (ev G cl (.ins o i a))) := (pe_bm PySem.F.plainAttrs_list PySem.F.slot_list_insert PySem.F.type_list_insert mt_insert ho hA rfl (by rw [star_one [z] h3, star_one [] h3']; rfl) h2 (star_one [z] h3) (by rw [star_one [] h3']; rfl)).wk fun s H Q q => by
      refine TDE.one (fun _ _ => rfl) q fun m m2 r d h2 h' H2 dx v st g w2 st2 rx e c => ?_
      split at e
      · rename_i hl
        obtain ⟨di, h3, e3, e⟩ := Rs.bind_ok e
        obtain ⟨dy, h4, e4, e⟩ := Rs.bind_ok e
        cases rx <;> first | (cases e; done) | skip
        · rename_i n a' ha e5 e6
          cases di <;> first | (cases e; done) | skip
          rename_i j
          simp only [insD] at e
          split at e <;> first | (cases e; done) | skip
          rename_i l el
          split at e <;> first | (cases e; done) | skip
          rename_i hz
          cases e
          have hl' : ∃ l0, lstAt h2 n = some l0 := Option.isSome_iff_exists.mp hl
          obtain ⟨l0, hl'⟩ := hl'
          obtain ⟨a'', vs0, ha'', hq, _⟩ := w2.lst hl'
          rw [ha] at ha''; cases ha''
          refine ⟨.inl ⟨rfl, vs0, hq⟩, m2, r, h2, .int j, h3, w2, st2, e3, fun m3 y' H3 g3 w3 ry => ⟨m3, r, h3, dy, h4, w3, st2.mono g3, e4, fun m4 z' H4 g4 w4 rz => ?_⟩⟩
          cases ry
          have ha4 := g4.pre _ _ (g3.pre _ _ ha)
          obtain ⟨vs, hv, rv⟩ : ∃ vs, H4 a' = some (.lst vs) ∧ RDs X.K m4 H4 l vs := w4.ob n _ a' el ha4
          obtain ⟨_, w5, g5⟩ := w4.lstSet el ha4 ((RDs.take' rv j.toNat).append (.cons rz (RDs.drop' rv j.toNat)))
          exact ⟨a', vs, j, z', rfl, rfl, hv, hz.1, by rw [← rv.length]; exact hz.2.1, by rw [← rv.length]; exact hz.2.2, c m4 _ _ ((g3.trans g4).trans g5) w5 .non⟩
      · cases e
    exact ⟨p, tOf p fun _ => rfl⟩
  exact ⟨fun e h => (p e h).1, fun e h => (p e h).2⟩
theorem kE_comp {G : Gs} {ca : Nat → Addr} {cl : Cl} (t : Tg) (k : Ck) (it cs : Es) (e : E) (N' : List Str) (cap : List Nat) (ih_e : IE G ca cl e) (ia_it : IA G ca cl it) (ib : IB G ca cl cs) (iq : IQ G ca cl it) : IE G ca cl (.comp t k it cs e N' cap) := fun X N sc xo go => by
  have p : ∀ v, chk N sc G (.comp t k it cs e N' cap) v = true → PE X v (TDE X.K (ev G cl (.comp t k it cs e N' cap))) ∧ PT X v (TDT X.K (ev G cl (.comp t k it cs e N' cap))) := fun v h => by
    obtain ⟨elt, tg, iter, ifs, scope, pos, rfl, c⟩ := compChk h
    have p : PE X (.ListComp elt [⟨tg, iter, ifs, 0⟩] scope pos) (TDE X.K (ev G cl (.comp t k it cs e N' cap))) := comp_pe xo c.S c.capL c.nN c.fr
      (fun C s3 H3 fp => ⟨pgT' (blk_xo xo c.nd C s3 H3 fp) (blk_loc (by rw [xo.s]; exact c.S) C s3 H3 fp) c.tg, ib _ _ _ (blk_xo xo c.nd C s3 H3 fp) (blk_go go C s3 H3 fp) ifs c.cs, (ih_e _ _ _ (blk_xo xo c.nd C s3 H3 fp) (blk_go go C s3 H3 fp)).1 elt c.e⟩) c.ns
      (comp_it xo c (fun es hc => ia_it _ _ _ xo go es hc) fun c' x ec hx => iq _ _ _ xo go c' x ec hx)
    exact ⟨p, tOf p fun _ => rfl⟩
  exact ⟨fun e h => (p e h).1, fun e h => (p e h).2⟩
theorem kE_mxd {G : Gs} {ca : Nat → Addr} {cl : Cl} (mx : Bool) (l d : E) (ih_l : IE G ca cl l) (ih_d : IE G ca cl d) : IE G ca cl (.mxd mx l d) := fun X N sc xo go => by
  have p : ∀ e, chk N sc G (.mxd mx l d) e = true → PE X e (TDE X.K (ev G cl (.mxd mx l d))) ∧ PT X e (TDT X.K (ev G cl (.mxd mx l d))) := fun e h => by
    cases e <;> first | exact absurd (show false = true from h) Bool.false_ne_true | skip
    rename_i fe es kw pos
    cases fe <;> first | exact absurd (show false = true from h) Bool.false_ne_true | skip
    rename_i x np
    rcases es with _ | ⟨y, _ | ⟨y2, ys⟩⟩ <;> first | exact absurd (show false = true from h) Bool.false_ne_true | skip
    rcases kw with _ | ⟨⟨kn, z, kp⟩, _ | ⟨k2, kw⟩⟩ <;> first | exact absurd (show false = true from h) Bool.false_ne_true | skip
    · rcases kn with _ | kn
      · exact absurd (show false = true from h) Bool.false_ne_true
      have h' : (x == mmNm mx && kn == ("default" : Str) && glB sc x && noStar y && chk N sc G l y && chk N sc G d z) = true := h
      simp only [Bool.and_eq_true, beq_iff_eq] at h'
      obtain ⟨⟨⟨⟨⟨rfl, rfl⟩, h3⟩, h4⟩, h5⟩, h6⟩ := h'
      have hm : X.mg (mmNm mx) = none := by
        cases mx with
        | true => exact go.blt .max
        | false => exact go.blt .min
      have p : PE X (.Call (.Name (mmNm mx) np) [y] [⟨some "default", z, kp⟩] pos) (TDE X.K (ev G cl (.mxd mx l d))) := (pe_mxd xo.calm (glB_ok xo h3) hm ((ih_l _ _ _ xo go).1 y h5) ((ih_d _ _ _ xo go).1 z h6) (star_one [] h4)).wk (TDE.op fun r h => by simp only [ev])
      exact ⟨p, tOf p fun _ => rfl⟩
    · rcases kn with _ | kn <;> exact absurd (show false = true from h) Bool.false_ne_true
  exact ⟨fun e h => (p e h).1, fun e h => (p e h).2⟩
theorem kE_lrg {G : Gs} {ca : Nat → Addr} {cl : Cl} (a : E) (ih_a : IE G ca cl a) : IE G ca cl (.lrg a) := fun X N sc xo go => by
  have p : ∀ e, chk N sc G (.lrg a) e = true → PE X e (TDE X.K (ev G cl (.lrg a))) ∧ PT X e (TDT X.K (ev G cl (.lrg a))) := fun e h => by
    cases e <;> first | exact absurd (show false = true from h) Bool.false_ne_true | skip
    rename_i fe es kw pos
    cases fe <;> first | exact absurd (show false = true from h) Bool.false_ne_true | skip
    rename_i x np
    rcases es with _ | ⟨y, _ | ⟨y2, ys⟩⟩
    · exact absurd (show false = true from h) Bool.false_ne_true
    · cases y <;> first | exact absurd (show false = true from h) Bool.false_ne_true | skip
      rename_i fe2 es2 kw2 pos2
      cases fe2 <;> first | exact absurd (show false = true from h) Bool.false_ne_true | skip
      rename_i x2 np2
      rcases es2 with _ | ⟨z, _ | ⟨z2, zs⟩⟩ <;> rcases kw2 with _ | ⟨kk, kw2⟩ <;> rcases kw with _ | ⟨kk2, kw⟩ <;> first | exact absurd (show false = true from h) Bool.false_ne_true | skip
      have h' : (x == ("list" : Str) && x2 == ("range" : Str) && glB sc x && glB sc x2 && noStar z && chk N sc G a z) = true := h
      simp only [Bool.and_eq_true, beq_iff_eq] at h'
      obtain ⟨⟨⟨⟨⟨rfl, rfl⟩, h3⟩, h4⟩, h5⟩, h6⟩ := h'
      have p : PE X (.Call (.Name "list" np) [.Call (.Name "range" np2) [z] [] pos2] [] pos) (TDE X.K (ev G cl (.lrg a))) := (pe_lrg xo.calm (glB_ok xo h3) (go.blt .list) (glB_ok xo h4) xo.rng ((ih_a _ _ _ xo go).1 z h6) (star_one [] h5)).wk fun s H Q q => by
        refine TDE.one (k := fun _ x h => lrgD x h) (fun r h => by rw [ev]) q fun m m2 r d h2 h' H2 dx x st g w2 st2 rx e c => ?_
        cases rx <;> first | (cases e; done) | skip
        rename_i j
        simp only [lrgD] at e
        split at e
        · rename_i hj
          cases e
          refine ⟨j, rfl, hj.1, hj.2, fun pl hpl => ?_⟩
          have rv : RDs X.K m2 H2 (rngD 0 j) ((List.range j.toNat).map fun (k : Nat) => V.int (0 + k)) := by
            unfold rngD
            rw [Int.sub_zero]
            generalize List.range j.toNat = L
            induction L with
            | nil => exact .nil
            | cons a L ih => exact .cons (.int _) ih
          obtain ⟨w3, g3⟩ := w2.lstNew hpl rv
          exact c _ _ _ g3 w3 (.ref (by rw [← w2.len]; simp))
        · cases e
      exact ⟨p, tOf p fun _ => rfl⟩
    · cases y <;> first | exact absurd (show false = true from h) Bool.false_ne_true | skip
      all_goals (rename_i fe2 es2 kw2 pos2; cases fe2 <;> first | exact absurd (show false = true from h) Bool.false_ne_true | skip)
      all_goals (rcases es2 with _ | ⟨z, _ | ⟨z2, zs⟩⟩ <;> rcases kw2 with _ | ⟨kk, kw2⟩ <;> exact absurd (show false = true from h) Bool.false_ne_true)
  exact ⟨fun e h => (p e h).1, fun e h => (p e h).2⟩
theorem kE_disp {G : Gs} {ca : Nat → Addr} {cl : Cl} (ks : List Str) (vs : Es) (ip : IP G ca cl vs) : IE G ca cl (.disp ks vs) := fun X N sc xo go => by
  have p : ∀ e, chk N sc G (.disp ks vs) e = true → PE X e (TDE X.K (ev G cl (.disp ks vs))) ∧ PT X e (TDT X.K (ev G cl (.disp ks vs))) := fun e h => by
    cases e <;> first | exact absurd (show false = true from h) Bool.false_ne_true | skip
    rename_i keys vals pos
    have h' : (decide (0 < ks.length ∧ keys.length = vals.length) && strKeys ks keys && chks N sc G vs vals) = true := h
    simp only [Bool.and_eq_true, decide_eq_true_eq] at h'
    have p : PE X (.Dict keys vals pos) (TDE X.K (ev G cl (.disp ks vs))) := pe_dispD h'.1.1.1 h'.1.2 h'.2 (ip _ _ _ xo go ks keys vals pos h'.1.1.2 h'.1.2 h'.2) _ fun r h => by rw [ev]
    exact ⟨p, tOf p fun _ => rfl⟩
  exact ⟨fun e h => (p e h).1, fun e h => (p e h).2⟩
mutual
theorem sET {X : Cx} {N : List Str} {sc : Scope} {G : Gs} {ca : Nat → Addr} {cl : Cl} (xo : XOk X N sc) (go : GOk X G ca cl) : ∀ c : E, (∀ e, chk N sc G c e = true → PE X e (TDE X.K (ev G cl c))) ∧ (∀ e, chk N sc G c e = true → PT X e (TDT X.K (ev G cl c)))
  | .var i => kE_var i  _ _ _ xo go
  | .int i => kE_int i  _ _ _ xo go
  | .bl b => kE_bl b  _ _ _ xo go
  | .non  => kE_non   _ _ _ xo go
  | .str x => kE_str x  _ _ _ xo go
  | .gc g => kE_gc g  _ _ _ xo go
  | .ty t => kE_ty t  _ _ _ xo go
  | .bin op a b => kE_bin op a b (fun X N sc xo go => sET xo go a) (fun X N sc xo go => sET xo go b) _ _ _ xo go
  | .neg a => kE_neg a (fun X N sc xo go => sET xo go a) _ _ _ xo go
  | .cmp op a b => kE_cmp op a b (fun X N sc xo go => sET xo go a) (fun X N sc xo go => sET xo go b) _ _ _ xo go
  | .and a b => kE_and a b (fun X N sc xo go => sET xo go a) (fun X N sc xo go => sET xo go b) _ _ _ xo go
  | .or a b => kE_or a b (fun X N sc xo go => sET xo go a) (fun X N sc xo go => sET xo go b) _ _ _ xo go
  | .not a => kE_not a (fun X N sc xo go => sET xo go a) _ _ _ xo go
  | .ite cc a b => kE_ite cc a b (fun X N sc xo go => sET xo go cc) (fun X N sc xo go => sET xo go a) (fun X N sc xo go => sET xo go b) _ _ _ xo go
  | .ix a b => kE_ix a b (fun X N sc xo go => sET xo go a) (fun X N sc xo go => sET xo go b) _ _ _ xo go
  | .tup l => kE_tup l (fun X N sc xo go es h => sA xo go l es h) _ _ _ xo go
  | .lst l => kE_lst l (fun X N sc xo go es h => sA xo go l es h) _ _ _ xo go
  | .call f l => kE_call f l (fun X N sc xo go es h => sA xo go l es h) _ _ _ xo go
  | .blt f l => kE_blt f l (fun X N sc xo go es h => sA xo go l es h) _ _ _ xo go
  | .app o a => kE_app o a (fun X N sc xo go => sET xo go o) (fun X N sc xo go => sET xo go a) _ _ _ xo go
  | .ins o i a => kE_ins o i a (fun X N sc xo go => sET xo go o) (fun X N sc xo go => sET xo go i) (fun X N sc xo go => sET xo go a) _ _ _ xo go
  | .comp t k it cs e N' cap => kE_comp t k it cs e N' cap (fun X N sc xo go => sET xo go e) (fun X N sc xo go es h => sA xo go it es h) (fun X N sc xo go es h => sB xo go cs es h) (fun X N sc xo go c' x ec hx => by
      cases it with
      | nil => cases ec
      | cons c0 l =>
        injection ec with ec _
        subst ec
        exact (sET xo go c0).1 x hx) _ _ _ xo go
  | .mxd mx l d => kE_mxd mx l d (fun X N sc xo go => sET xo go l) (fun X N sc xo go => sET xo go d) _ _ _ xo go
  | .lrg a => kE_lrg a (fun X N sc xo go => sET xo go a) _ _ _ xo go
  | .disp ks vs => kE_disp ks vs (fun X N sc xo go ks keys vals pos h1 h2 h3 => sP xo go vs ks keys vals pos h1 h2 h3) _ _ _ xo go
theorem sP {X : Cx} {N : List Str} {sc : Scope} {G : Gs} {ca : Nat → Addr} {cl : Cl} (xo : XOk X N sc) (go : GOk X G ca cl) : ∀ (l : Es) (ks : List Str) (keys : List (Option PySem.Expr)) (vals : List PySem.Expr) (pos : Pos), keys.length = vals.length → strKeys ks keys = true → chks N sc G l vals = true → PPs X pos keys vals (trsOf X.K G cl ks l)
  | .nil, ks, keys, [], pos, hl, hk, _ => by
    have : keys = [] := List.length_eq_zero_iff.mp (by simpa using hl)
    subst this
    cases ks with
    | nil => exact pps_nil
    | cons => exact absurd (show false = true from hk) Bool.false_ne_true
  | .cons c l, ks, keys, v :: vals, pos, hl, hk, hv => by
    have h' : (noStar v && chk N sc G c v && chks N sc G l vals) = true := hv
    simp only [Bool.and_eq_true] at h'
    rcases keys with _ | ⟨k, keys⟩
    · simp at hl
    rcases k with _ | k
    · cases ks <;> exact absurd (show false = true from hk) Bool.false_ne_true
    cases ks with
    | nil => exact absurd (show false = true from hk) Bool.false_ne_true
    | cons x ks =>
      cases k <;> first | exact absurd (show false = true from hk) Bool.false_ne_true | skip
      rename_i cst j kp
      cases cst <;> first | exact absurd (show false = true from hk) Bool.false_ne_true | skip
      rename_i y
      have hk' : (x == y && strKeys ks keys) = true := hk
      simp only [Bool.and_eq_true, beq_iff_eq] at hk'
      obtain ⟨rfl, hk2⟩ := hk'
      exact pps_cons pe_str ((sET xo go c).1 v h'.1.2) (sP xo go l ks keys vals pos (by simpa using hl) hk2 h'.2)
  | .nil, _, _, _ :: _, _, _, _, hv => absurd (show false = true from hv) Bool.false_ne_true
  | .cons _ _, _, _, [], _, _, _, hv => absurd (show false = true from hv) Bool.false_ne_true
theorem sB {X : Cx} {N : List Str} {sc : Scope} {G : Gs} {ca : Nat → Addr} {cl : Cl} (xo : XOk X N sc) (go : GOk X G ca cl) : ∀ (l : Es) (es : List PySem.Expr), chks N sc G l es = true → PTs X es (TDB X.K (evt G cl l))
  | .nil, [], _ => fun pins s σ H Q I ⟨m, r, hh, b, h', w, st, e1, c⟩ => by
    rw [evt] at e1
    cases e1
    exact wpAny_pure ⟨H, I, c m H Gr.refl w⟩
  | .cons c l, e :: es, h => fun pins s σ H Q I ⟨m, r, hh, b, h', w, st, e1, cc⟩ => by
    have h' : (noStar e && chk N sc G c e && chks N sc G l es) = true := h
    simp only [Bool.and_eq_true] at h'
    rw [evt] at e1
    obtain ⟨d, h1, e0, e1⟩ := Rs.bind_ok e1
    refine tests_cons ?_
    split at e1
    · rename_i et
      refine thn ((sET xo go c).2 e h'.1.2 pins s σ H (fun k H1 => k = true ∧ TDB X.K (evt G cl l) σ H1 Q) I ⟨m, r, hh, d, h1, true, w, st, e0, et, fun m' H' g w' => ⟨rfl, m', r, h1, b, _, w', st.mono g, e1, fun m2 H2 g2 => cc m2 H2 (g.trans g2)⟩⟩) fun k s1 ⟨H1, I1, ek, q1⟩ => ?_
      subst ek
      exact sB xo go l es h'.2 pins s1 σ H1 Q I1 q1
    · rename_i et
      cases e1
      refine thn ((sET xo go c).2 e h'.1.2 pins s σ H (fun k H1 => k = false ∧ Q false H1) I ⟨m, r, hh, d, _, false, w, st, e0, et, fun m' H' g w' => ⟨rfl, cc m' H' g w'⟩⟩) fun k s1 ⟨H1, I1, ek, q1⟩ => ?_
      subst ek
      exact tests_false ⟨H1, I1, q1⟩
    · cases e1
  | .nil, _ :: _, h => absurd (show false = true from h) Bool.false_ne_true
  | .cons _ _, [], h => absurd (show false = true from h) Bool.false_ne_true
theorem sA {X : Cx} {N : List Str} {sc : Scope} {G : Gs} {ca : Nat → Addr} {cl : Cl} (xo : XOk X N sc) (go : GOk X G ca cl) : ∀ (l : Es) (es : List PySem.Expr), chks N sc G l es = true → PA X es (TDA X.K (evs G cl l))
  | .nil, [], _ => L2.PA.wk pa_nil fun s H Q ⟨m, r, hh, ds, h', w, st, e1, c⟩ => by
    cases e1
    exact c m [] H Gr.refl w .nil
  | .cons c l, e :: es, h => by
    have h' : (noStar e && chk N sc G c e && chks N sc G l es) = true := h
    simp only [Bool.and_eq_true] at h'
    refine L2.PA.wk (pa_cons ((sET xo go c).1 e h'.1.2) (sA xo go l es h'.2) (star_one es h'.1.1)) fun s H Q ⟨m, r, hh, ds, h', w, st, e1, cc⟩ => ?_
    simp only [evs] at e1
    obtain ⟨d, h1, e0, e1⟩ := Rs.bind_ok e1
    obtain ⟨ds', h2, e2, e1⟩ := Rs.bind_ok e1
    cases e1
    exact ⟨m, r, hh, d, h1, w, st, e0, fun m1 v H1 g1 w1 rv => ⟨m1, r, h1, ds', _, w1, st.mono g1, e2, fun m2 vs H2 g2 w2 rvs => cc m2 _ H2 (g1.trans g2) w2 (.cons (rv.mono g2) rvs)⟩⟩
  | .nil, _ :: _, h => absurd (show false = true from h) Bool.false_ne_true
  | .cons _ _, [], h => absurd (show false = true from h) Bool.false_ne_true
end
end Ng
end
section
set_option Elab.async false
set_option linter.all false
set_option maxRecDepth 100000
set_option maxHeartbeats 4000000
set_option autoImplicit false
namespace Ng
open PySem PySem.Spec PyProof.Rows L2
inductive Ir where
  | r1 (e : E) | r2 (a b : E) | sq (e : E)
/-- what an except suite may hold: tests of the exception's class, plain stores -/
inductive HB where
  | isx (k : Nat) | isv | and (a b : HB)
inductive HS where
  | bl (i : Nat) (b : HB) | cst (i : Nat) (d : Sum Bool Str)
def HB.run (sub : List (Nat × Nat)) (c : Nat) : HB → Option Bool
  | .isx k => if (c, k) ∈ sub then some true else none
  | .isv => some true
  | .and a b => match a.run sub c, b.run sub c with
    | some true, some y => some y
    | _, _ => none
def cstD : Sum Bool Str → D
  | .inl b => .bl b
  | .inr x => .str x
def hrun (sub : List (Nat × Nat)) (c : Nat) : List HS → Ev → Option Ev
  | [], r => some r
  | .bl i b :: l, r => match b.run sub c with
    | some v => hrun sub c l (r.set i (some (.bl v)))
    | none => none
  | .cst i d :: l, r => hrun sub c l (r.set i (some (cstD d)))
def clr : Option Nat → Ev → Ev
  | some j, r => r.set j none
  | none, r => r
mutual
inductive S where
  | rais (c : Nat) (x : Str) | asgX (t : Tg) (f : Nat) (l : Es) | retX (f : Nat) (l : Es) | exX (f : Nat) (l : Es) | tryx (b : Ss) (g : Nat) (j : Option Nat) (hs : List HS)
  | asg (t : Tg) (e : E) | asc (i : Nat) (e : E) | ex (e : E) | ret (e : E) | iff (c : E) (a b : Ss) | forr (t : Tg) (it : Ir) (b : Ss) | whl (c : E) (b : Ss)
  | pass | brk | cont | stx (o i e : E) | never
inductive Ss where
  | nil | cons (s : S) (r : Ss)
end
inductive Fl where
  | nx (r : Ev) | rt (d : D) | bk (r : Ev) | ct (r : Ev)
def forS (t : Tg) (body : Ev → Hh → Rs Fl) : List D → Ev → Hh → Rs Fl
  | [], r, h => .ok (.nx r) h
  | d :: ds, r, h => match setT t d r with
    | none => .bad
    | some r1 => (body r1 h).bind fun fl h => match fl with
      | .nx r2 => forS t body ds r2 h
      | .ct r2 => forS t body ds r2 h
      | .bk r2 => .ok (.nx r2) h
      | .rt d => .ok (.rt d) h
def forI (t : Tg) (body : Ev → Hh → Rs Fl) (n : Nat) : Nat → Nat → Ev → Hh → Rs Fl
  | 0, _, _, _ => .bad
  | k + 1, i, r, h => match lstAt h n with
    | none => .bad
    | some l => match l[i]? with
      | none => .ok (.nx r) h
      | some d => match setT t d r with
        | none => .bad
        | some r1 => (body r1 h).bind fun fl h => match fl with
          | .nx r2 => forI t body n k (i + 1) r2 h
          | .ct r2 => forI t body n k (i + 1) r2 h
          | .bk r2 => .ok (.nx r2) h
          | .rt d => .ok (.rt d) h
def whileF (c : Ev → Hh → Rs D) (body : Ev → Hh → Rs Fl) : Nat → Ev → Hh → Rs Fl
  | 0, _, _ => .bad
  | k + 1, r, h => (c r h).nx.bind fun x h => match truD x h with
    | none => .bad
    | some false => .ok (.nx r) h
    | some true => (body r h).bind fun fl h => match fl with
      | .nx r2 => whileF c body k r2 h
      | .ct r2 => whileF c body k r2 h
      | .bk r2 => .ok (.nx r2) h
      | .rt d => .ok (.rt d) h
def stxD (x y z : D) (h : Hh) : Rs Unit := match x, y with
  | .ref n, .int k => match h[n]? with
    | some (.lst l) => match ixN l.length k with
      | some j => .ok () (h.set n (.lst (l.set j z)))
      | none => .bad
    | _ => .bad
  | _, _ => .bad
def forD (W : Nat) (t : Tg) (body : Ev → Hh → Rs Fl) (x : D) (r : Ev) (h : Hh) : Rs Fl := match x with
  | .tup l => forS t body l r h
  | .ref n => forI t body n W 0 r h
  | _ => .bad
def catchD (sub : List (Nat × Nat)) (g : Nat) (j : Option Nat) (hs : List HS) : Rs Fl → Rs Fl
  | .exc c r h => if (c, g) ∈ sub then (match hrun sub c hs (clr j r) with
    | some r' => .ok (.nx (clr j r')) h
    | none => .bad) else .bad
  | o => o
mutual
def xs (G : Gs) (cl : Cl) (W : Nat) : S → Ev → Hh → Rs Fl
  | .rais c _, r, h => .exc c r h
  | .asgX t f l, r, h => (evs G cl l r h).nx.bind fun ds h => ((cl f ds h).inn r).bind fun x h => match setT t x r with
    | some r1 => .ok (.nx r1) h
    | none => .bad
  | .retX f l, r, h => (evs G cl l r h).nx.bind fun ds h => ((cl f ds h).inn r).bind fun x h => .ok (.rt x) h
  | .exX f l, r, h => (evs G cl l r h).nx.bind fun ds h => ((cl f ds h).inn r).bind fun _ h => .ok (.nx r) h
  | .tryx b g j hs, r, h => catchD G.sub g j hs (xss G cl W b r h)
  | .asg t e, r, h => (ev G cl e r h).nx.bind fun x h => match setT t x r with
    | some r1 => .ok (.nx r1) h
    | none => .bad
  | .asc i e, r, h => (ev G cl e r h).nx.bind fun x h => .ok (.nx (r.set i (some x))) h
  | .ex e, r, h => (ev G cl e r h).nx.bind fun _ h => .ok (.nx r) h
  | .ret e, r, h => (ev G cl e r h).nx.bind fun x h => .ok (.rt x) h
  | .iff c a b, r, h => (ev G cl c r h).nx.bind fun x h => match truD x h with
    | some true => xss G cl W a r h
    | some false => xss G cl W b r h
    | none => .bad
  | .forr t (.r1 e) b, r, h => (ev G cl e r h).nx.bind fun x h => match x with
    | .int j => if okR j then forS t (xss G cl W b) (rngD 0 j) r h else .bad
    | _ => .bad
  | .forr t (.r2 e e') b, r, h => (ev G cl e r h).nx.bind fun x h => (ev G cl e' r h).nx.bind fun y h => match x, y with
    | .int i, .int j => if okR i ∧ okR j then forS t (xss G cl W b) (rngD i j) r h else .bad
    | _, _ => .bad
  | .forr t (.sq e) b, r, h => (ev G cl e r h).nx.bind fun x h => forD W t (xss G cl W b) x r h
  | .whl c b, r, h => whileF (ev G cl c) (xss G cl W b) W r h
  | .pass, r, h => .ok (.nx r) h
  | .brk, r, h => .ok (.bk r) h
  | .cont, r, h => .ok (.ct r) h
  | .stx o i e, r, h => (ev G cl e r h).nx.bind fun z h => (ev G cl o r h).nx.bind fun x h => (ev G cl i r h).nx.bind fun y h => (stxD x y z h).nx.bind fun _ h => .ok (.nx r) h
  | .never, _, _ => .bad
def xss (G : Gs) (cl : Cl) (W : Nat) : Ss → Ev → Hh → Rs Fl
  | .nil, r, h => .ok (.nx r) h
  | .cons s l, r, h => (xs G cl W s r h).bind fun fl h => match fl with
    | .nx r2 => xss G cl W l r2 h
    | f => .ok f h
end
def noComp : PySem.Expr → Bool
  | .ListComp _ _ _ _ => false
  | .SetComp _ _ _ _ => false
  | .DictComp _ _ _ _ _ => false
  | _ => true
def noTup : PySem.Expr → Bool
  | .Tuple _ _ _ => false
  | _ => true
def isComp : E → Bool
  | .comp _ _ _ _ _ _ _ => true
  | _ => false
def swOk (y : Str) (py : Pos) : PySem.Expr → Bool
  | .ListComp _ _ scope pos => py.line == pos.line && !(scope.names.any fun (n, k) => n == y && (k == .local || k == .cell))
  | _ => false
def chkNs (N : List Str) (sc : Scope) : List Nat → List PySem.Expr → Bool
  | [], [] => true
  | i :: is, .Name x _ :: es => N[i]? == some x && locB sc x && chkNs N sc is es
  | _, _ => false
def chkT (N : List Str) (sc : Scope) : Tg → PySem.Expr → Bool
  | .nm i, .Name x _ => N[i]? == some x && locB sc x
  | .tp l, .Tuple es _ _ => chkNs N sc l es
  | _, _ => false
def chkI (N : List Str) (sc : Scope) (G : Gs) : Ir → PySem.Expr → Bool
  | .r1 e, .Call (.Name x _) [a] [] _ => x == ("range" : Str) && glB sc x && noStar a && chk N sc G e a
  | .r2 e e', .Call (.Name x _) [a, b] [] _ => x == ("range" : Str) && glB sc x && noStar a && noStar b && chk N sc G e a && chk N sc G e' b
  | .sq e, a => noSet a && chk N sc G e a
  | _, _ => false
/-- the text of an except suite; n: the exception's name -/
def chkHB (sc : Scope) (G : Gs) (n : Option Str) : HB → PySem.Expr → Bool
  | .isx k, .Call (.Name f _) [.Name x _, .Name y _] [] _ => f == ("isinstance" : Str) && glB sc f && n == some x && noDbg x && G.excs[k]? == some y && glB sc y && noDbg y
  | .isv, .Call (.Name f _) [.Name x _, .Name y _] [] _ => f == ("isinstance" : Str) && glB sc f && n == some x && noDbg x && y == ("ValueError" : Str) && glB sc y
  | .and a b, .BoolOp .And [x, y] _ => chkHB sc G n a x && chkHB sc G n b y
  | _, _ => false
def chkHS (N : List Str) (sc : Scope) (G : Gs) (n : Option Str) : HS → PySem.Stmt → Bool
  | .bl i b, .Assign [.Name x _] v _ => N[i]? == some x && locB sc x && (!(n == some x)) && noComp v && chkHB sc G n b v
  | .cst i (.inl b), .Assign [.Name x _] (.Constant (.bool c) _ _) _ => N[i]? == some x && locB sc x && (!(n == some x)) && b == c
  | .cst i (.inr y), .Assign [.Name x _] (.Constant (.str z) _ _) _ => N[i]? == some x && locB sc x && (!(n == some x)) && y == z
  | _, _ => false
def chkHSs (N : List Str) (sc : Scope) (G : Gs) (n : Option Str) : List HS → List PySem.Stmt → Bool
  | [], [] => true
  | a :: l, x :: r => chkHS N sc G n a x && chkHSs N sc G n l r
  | _, _ => false
def chkJ (N : List Str) (sc : Scope) : Option Nat → Option Str → Bool
  | none, none => true
  | some j, some n => N[j]? == some n && sc.names.lookup n == some .local
  | _, _ => false
mutual
/-- no raise of its own: a try's body -/
def noRs : S → Bool
  | .rais _ _ => false
  | .iff _ a b => noRss a && noRss b
  | .forr _ _ b => noRss b
  | .whl _ b => noRss b
  | .tryx _ _ _ _ => false
  | _ => true
def noRss : Ss → Bool
  | .nil => true
  | .cons s l => noRs s && noRss l
end
mutual
def chkS (N : List Str) (sc : Scope) (G : Gs) : S → PySem.Stmt → Bool
  | .rais c x, .Raise (some (.Call (.Name y _) [.Constant (.str z) _ _] [] _)) none _ => G.excs[c]? == some y && glB sc y && noDbg y && x == z
  | .asgX (.nm i) f l, .Assign [.Name x _] (.Call (.Name y _) (e :: es) [] _) _ => N[i]? == some x && locB sc x && G.fns[f]? == some y && glB sc y && noDbg y && chks N sc G l (e :: es)
  | .asgX (.tp is) f l, .Assign [.Tuple ts _ _] (.Call (.Name y _) (e :: es) [] _) _ => chkNs N sc is ts && G.fns[f]? == some y && glB sc y && noDbg y && chks N sc G l (e :: es)
  | .retX f l, .Return (some (.Call (.Name y _) (e :: es) [] _)) _ => G.fns[f]? == some y && glB sc y && noDbg y && chks N sc G l (e :: es)
  | .exX f l, .Expr (.Call (.Name y _) (e :: es) [] _) _ => G.fns[f]? == some y && glB sc y && noDbg y && chks N sc G l (e :: es)
  | .tryx b g j hs, .Try body [.ExceptHandler (some (.Name y _)) n (s0 :: suite) _] [] [] _ => G.excs[g]? == some y && glB sc y && noDbg y && chkJ N sc j n && noRss b && chkHSs N sc G n hs (s0 :: suite) && chkSs N sc G b body
  | .asg (.nm i) e, .Assign [.Name x _] v _ => N[i]? == some x && locB sc x && noComp v && chk N sc G e v
  | .asg (.tp l) e, .Assign [.Tuple es _ _] v _ => chkNs N sc l es && noComp v && noTup v && chk N sc G e v
  | .asc i e, .Assign [.Name y py] v spos => N[i]? == some y && sc.kind == .function && sc.names.lookup y == some .local && isComp e && swOk y py v && chk N sc G e v
  | .ex e, .Expr v _ => noComp v && chk N sc G e v
  | .ret e, .Return (some v) _ => chk N sc G e v
  | .iff c a b, .If t x y _ => chk N sc G c t && chkSs N sc G a x && chkSs N sc G b y
  | .forr t it b, .For tg i x [] _ => chkT N sc t tg && noSet i && chkI N sc G it i && chkSs N sc G b x
  | .whl c b, .While t x [] _ => chk N sc G c t && chkSs N sc G b x
  | .pass, .Pass _ => true
  | .brk, .Break _ => true
  | .cont, .Continue _ => true
  | .stx o i e, .Assign [.Subscript x y _] v _ => noComp v && noSlice y && chk N sc G e v && chk N sc G o x && chk N sc G i y
  | .never, _ => true
  | _, _ => false
def chkSs (N : List Str) (sc : Scope) (G : Gs) : Ss → List PySem.Stmt → Bool
  | .nil, [] => true
  | .cons s l, x :: r => chkS N sc G s x && chkSs N sc G l r
  | _, _ => false
end
def FlOk (K : PySem.W.Frag) (m : List Addr) (H : Hp) (D : Ends) : Fl → Prop
  | .nx r => ∀ s, RSt K m H r s → D.nx s H
  | .rt d => ∀ v, RD K m H d v → D.rt v H
  | .bk r => ∀ s, RSt K m H r s → D.bk s H
  | .ct r => ∀ s, RSt K m H r s → D.ct s H
abbrev Ws := Nat → Sg → Hp → Prop
/-- what is wanted of an end, or of an exception -/
def OutS (K : PySem.W.Frag) (W : Ws) (m : List Addr) (H : Hp) (D : Ends) : Rs Fl → Prop
  | .ok fl h' => ∀ m' H', Gr K m H m' H' → Wd K m' h' H' → FlOk K m' H' D fl
  | .exc c r' h' => ∀ m' H' s', Gr K m H m' H' → Wd K m' h' H' → RSt K m' H' r' s' → W c s' H'
  | .bad => False
theorem OutS.mono {K : PySem.W.Frag} {W : Ws} {m m1 : List Addr} {H H1 : Hp} {D : Ends} (g : Gr K m H m1 H1) : ∀ {o : Rs Fl}, OutS K W m H D o → OutS K W m1 H1 D o
  | .ok _ _, q => fun m' H' g' => q m' H' (g.trans g')
  | .exc _ _ _, q => fun m' H' s' g' => q m' H' s' (g.trans g')
  | .bad, q => q
def TDS (K : PySem.W.Frag) (W : Ws) (f : Ev → Hh → Rs Fl) : TS := fun D s H => ∃ m r h, Wd K m h H ∧ RSt K m H r s ∧ OutS K W m H D (f r h)
theorem _root_.L2.PS.wk {X : Cx} {e : PySem.Stmt} {t t' : TS} (h : PS X e t) (i : ∀ D s H, t' D s H → t D s H) : PS X e t' := fun pins s σ H D I q => h pins s σ H D I (i _ _ _ q)
theorem _root_.L2.PSs.wk {X : Cx} {e : List PySem.Stmt} {t t' : TS} (h : PSs X e t) (i : ∀ D s H, t' D s H → t D s H) : PSs X e t' := fun pins s σ H D I q => h pins s σ H D I (i _ _ _ q)
section
variable {X : Cx} {N : List Str} {sc : Scope} {G : Gs} {ca : Nat → Addr} {cl : Cl}
theorem chkNs_of : ∀ {l : List Nat} {es : List PySem.Expr}, chkNs N sc l es = true → l.length = es.length ∧ ∀ (j : Nat) i e, l[j]? = some i → es[j]? = some e → chkT N sc (.nm i) e = true
  | [], [], _ => ⟨rfl, fun j i e h => by simp at h⟩
  | i :: is, e :: es, h => by
    cases e <;> first | exact absurd (show false = true from h) Bool.false_ne_true | skip
    rename_i x pos
    have h' : (N[i]? == some x && locB sc x && chkNs N sc is es) = true := h
    rw [Bool.and_eq_true] at h'
    obtain ⟨i1, i2⟩ := chkNs_of h'.2
    refine ⟨by simp [i1], fun j i' e' e1 e2 => ?_⟩
    cases j with
    | zero =>
      simp at e1 e2
      subst e1; subst e2
      exact h'.1
    | succ j => exact i2 j i' e' (by simpa using e1) (by simpa using e2)
  | [], _ :: _, h => absurd (show false = true from h) Bool.false_ne_true
  | _ :: _, [], h => absurd (show false = true from h) Bool.false_ne_true
theorem pgT (xo : XOk X N sc) (hfn : ∀ x, X.fn x = true) {t : Tg} {tg : PySem.Expr} (h : chkT N sc t tg = true) : PG X tg (TDG X.K t) := by
  refine pgT_of (fun e i => chkT N sc (.nm i) e) (fun e i he => ?_) xo.calm ?_
  · cases e <;> first | exact absurd (show false = true from he) Bool.false_ne_true | skip
    rename_i x pos
    have h' : (N[i]? == some x && locB sc x) = true := he
    simp only [Bool.and_eq_true, beq_iff_eq] at h'
    exact ⟨x, pos, rfl, pg_name xo.nd (by rw [xo.n]; exact h'.1) (by rw [xo.s]; exact locB_ok h'.2) (.inl (hfn x))⟩
  · cases t with
    | nm i => exact h
    | tp l =>
      cases tg <;> first | exact absurd (show false = true from h) Bool.false_ne_true | skip
      rename_i es k pos
      obtain ⟨h1, h2⟩ := chkNs_of (show chkNs N sc l es = true from h)
      exact ⟨es, k, pos, rfl, h1, h2⟩
end
end Ng
end
section
set_option Elab.async false
set_option linter.all false
set_option maxRecDepth 100000
set_option maxHeartbeats 4000000
set_option autoImplicit false
namespace Ng
open PySem PySem.Spec PyProof.Rows L2
section
variable {X : Cx} {N : List Str} {sc : Scope} {G : Gs} {cl : Cl} {W : Nat} {K : PySem.W.Frag} {Wx : Ws}
/-- behind an expression that may raise nothing -/
theorem OutS.nx {A : Type} {m : List Addr} {H : Hp} {Z : Ends} {a : Rs A} {k : A → Hh → Rs Fl} (q : OutS K Wx m H Z (a.nx.bind k)) : ∃ d h1, a = .ok d h1 ∧ OutS K Wx m H Z (k d h1) := by
  cases a with
  | ok d h1 => exact ⟨d, h1, rfl, q⟩
  | exc c r h => exact q.elim
  | bad => exact q.elim
/-- what a loop's body does to what is wanted: the loop's own ends -/
theorem OutS.body {Z : Ends} {m : List Addr} {H : Hp} {P : Sg → Hp → Prop} {o : Rs Fl} {next : Ev → Hh → Rs Fl}
    (e : OutS K Wx m H Z (o.bind fun fl h => match fl with
      | .nx r2 => next r2 h
      | .ct r2 => next r2 h
      | .bk r2 => .ok (.nx r2) h
      | .rt d => .ok (.rt d) h))
    (hP : ∀ m' H' h' r s, Gr K m H m' H' → Wd K m' h' H' → RSt K m' H' r s → OutS K Wx m' H' Z (next r h') → P s H') : OutS K Wx m H { Z with nx := P, ct := P, bk := Z.nx } o := by
  cases o with
  | bad => exact e
  | exc c r h => exact e
  | ok fl h2 =>
    intro m' H' g w
    have e' := OutS.mono g e
    cases fl with
    | nx r => exact fun s st => hP m' H' h2 r s g w st e'
    | ct r => exact fun s st => hP m' H' h2 r s g w st e'
    | bk r => exact fun s st => e' m' H' .refl w s st
    | rt d => exact fun v rd => e' m' H' .refl w v rd
/-- one turn of a loop over items that stay -/
theorem turnS {t : Tg} {body : Ev → Hh → Rs Fl} {Z : Ends} {d : D} {ds : List D} {P : Sg → Hp → Prop} {m1 : List Addr} {r1 : Ev} {h1 : Hh} {s1 : Sg} {H1 : Hp} {v : V}
    (w : Wd K m1 h1 H1) (st : RSt K m1 H1 r1 s1) (rd : RD K m1 H1 d v) (e : OutS K Wx m1 H1 Z (forS t body (d :: ds) r1 h1))
    (hP : ∀ m2 H2 r2 h2 s2, Gr K m1 H1 m2 H2 → Wd K m2 h2 H2 → RSt K m2 H2 r2 s2 → OutS K Wx m2 H2 Z (forS t body ds r2 h2) → P s2 H2) :
    TDG K t v s1 H1 fun s2 H2 => TDS K Wx body { Z with nx := P, ct := P, bk := Z.nx } s2 H2 := by
  simp only [forS] at e
  split at e
  · exact e.elim
  · rename_i r2 er
    exact ⟨m1, h1, r1, d, r2, w, st, rd, er, fun s2 st2 => ⟨m1, r2, h1, w, st2, OutS.body (next := forS t body ds) e fun m' H' h' r s g w' st' e' => hP m' H' r h' s g w' st' e'⟩⟩
theorem for_tupD {t : Tg} {body : Ev → Hh → Rs Fl} {Z : Ends} {m0 : List Addr} {H0 : Hp} {h0 : Hh} {ds : List D} {vs : List V} {r0 : Ev} {s0 : Sg} {a : Addr}
    (w : Wd K m0 h0 H0) (st : RSt K m0 H0 r0 s0) (hq : SqT K H0 a vs) (q : RDs K m0 H0 ds vs) (e : OutS K Wx m0 H0 Z (forS t body ds r0 h0)) :
    ∃ Wv : Nat → Nat → Sg → Hp → Prop, (∃ m, Wv 0 m s0 H0) ∧ ∀ i m s H, Wv i m s H →
      ((Itt K a).stop i H ∧ Z.nx s H) ∨ ((Itt K a).go i H ∧ ∃ P : Sg → Hp → Prop, (∀ s' H', P s' H' → ∃ m', m' < m ∧ Wv (i + 1) m' s' H') ∧ ∀ x H', (Itt K a).yld i H x H' → TDG K t x s H' fun s2 H2 => TDS K Wx body { Z with nx := P, ct := P, bk := Z.nx } s2 H2) := by
  refine for_tup (K := K) (a := a) (xs := vs) (fun i s H => ∃ m r h, Gr K m0 H0 m H ∧ Wd K m h H ∧ RSt K m H r s ∧ OutS K Wx m H Z (forS t body (ds.drop i) r h))
    ⟨m0, r0, h0, .refl, w, st, e⟩ (fun i s H _ ⟨m, r, h, g, _⟩ => g.tup _ _ hq) ?_ ?_
  · rintro i x s H hi ⟨m, r, h, g, w1, st1, e1⟩
    obtain ⟨d, hd, rd⟩ := q.getV hi
    have ed : ds.drop i = d :: ds.drop (i + 1) := by
      obtain ⟨hl, z⟩ := List.getElem?_eq_some_iff.mp hd
      rw [← z]; exact List.drop_eq_getElem_cons hl
    rw [ed] at e1
    exact turnS w1 st1 (rd.mono g) e1 fun m2 H2 r2 h2 s2 g2 w2 st2 e2 => ⟨m2, r2, h2, g.trans g2, w2, st2, e2⟩
  · rintro s H ⟨m, r, h, g, w1, st1, e1⟩
    rw [← q.length, List.drop_length] at e1
    exact e1 m H .refl w1 s st1
theorem for_rngD {t : Tg} {body : Ev → Hh → Rs Fl} {Z : Ends} {m0 : List Addr} {H0 : Hp} {h0 : Hh} {lo hi : Int} {r0 : Ev} {s0 : Sg}
    (w : Wd K m0 h0 H0) (st : RSt K m0 H0 r0 s0) (e : OutS K Wx m0 H0 Z (forS t body (rngD lo hi) r0 h0)) :
    ∃ Wv : Nat → Nat → Sg → Hp → Prop, (∃ m, Wv 0 m s0 H0) ∧ ∀ i m s H, Wv i m s H →
      ((Itr lo (hi - lo).toNat).stop i H ∧ Z.nx s H) ∨ ((Itr lo (hi - lo).toNat).go i H ∧ ∃ P : Sg → Hp → Prop, (∀ s' H', P s' H' → ∃ m', m' < m ∧ Wv (i + 1) m' s' H') ∧ ∀ x H', (Itr lo (hi - lo).toNat).yld i H x H' → TDG K t x s H' fun s2 H2 => TDS K Wx body { Z with nx := P, ct := P, bk := Z.nx } s2 H2) := by
  refine for_range (lo := lo) (n := (hi - lo).toNat) (fun i s H => ∃ m r h, Gr K m0 H0 m H ∧ Wd K m h H ∧ RSt K m H r s ∧ OutS K Wx m H Z (forS t body ((rngD lo hi).drop i) r h))
    ⟨m0, r0, h0, .refl, w, st, e⟩ ?_ ?_
  · rintro i s H hi' ⟨m, r, h, g, w1, st1, e1⟩
    have hd : (rngD lo hi)[i]? = some (D.int (lo + i)) := by
      unfold rngD
      rw [List.getElem?_map, List.getElem?_range hi']
      rfl
    have ed : (rngD lo hi).drop i = D.int (lo + i) :: (rngD lo hi).drop (i + 1) := by
      obtain ⟨hl, z⟩ := List.getElem?_eq_some_iff.mp hd
      rw [← z]; exact List.drop_eq_getElem_cons hl
    rw [ed] at e1
    exact turnS w1 st1 (.int _) e1 fun m2 H2 r2 h2 s2 g2 w2 st2 e2 => ⟨m2, r2, h2, g.trans g2, w2, st2, e2⟩
  · rintro s H ⟨m, r, h, g, w1, st1, e1⟩
    have hl : (rngD lo hi).length = (hi - lo).toNat := by unfold rngD; simp
    rw [← hl, List.drop_length] at e1
    exact e1 m H .refl w1 s st1
theorem for_lstD {t : Tg} {body : Ev → Hh → Rs Fl} {Z : Ends} {m0 : List Addr} {H0 : Hp} {h0 : Hh} {n : Nat} {r0 : Ev} {s0 : Sg} {a : Addr}
    (w : Wd K m0 h0 H0) (st : RSt K m0 H0 r0 s0) (ha : m0[n]? = some a) (e : OutS K Wx m0 H0 Z (forI t body n W 0 r0 h0)) :
    ∃ Wv : Nat → Nat → Sg → Hp → Prop, (∃ m, Wv 0 m s0 H0) ∧ ∀ i m s H, Wv i m s H →
      ((Itl K a).stop i H ∧ Z.nx s H) ∨ ((Itl K a).go i H ∧ ∃ P : Sg → Hp → Prop, (∀ s' H', P s' H' → ∃ m', m' < m ∧ Wv (i + 1) m' s' H') ∧ ∀ x H', (Itl K a).yld i H x H' → TDG K t x s H' fun s2 H2 => TDS K Wx body { Z with nx := P, ct := P, bk := Z.nx } s2 H2) := by
  refine ⟨fun i k s H => ∃ m r h, Gr K m0 H0 m H ∧ Wd K m h H ∧ RSt K m H r s ∧ OutS K Wx m H Z (forI t body n k i r h), ⟨W, m0, r0, h0, .refl, w, st, e⟩, ?_⟩
  rintro i k s H ⟨m, r, h, g, w1, st1, e1⟩
  cases k with
  | zero => exact e1.elim
  | succ k =>
    simp only [forI] at e1
    split at e1
    · exact e1.elim
    · rename_i l el
      obtain ⟨a', vs, ha', hq, q⟩ := w1.lst el
      have := g.pre _ _ ha
      rw [this] at ha'; cases ha'
      split at e1
      · rename_i en
        refine .inl ⟨⟨vs, hq, ?_⟩, e1 m H .refl w1 s st1⟩
        rw [← q.length]; exact List.getElem?_eq_none_iff.mp en
      · rename_i d ed
        obtain ⟨v, hv, rd⟩ := q.get ed
        refine .inr ⟨⟨vs, v, hq, hv⟩, fun s' H' => ∃ m r h, Gr K m0 H0 m H' ∧ Wd K m h H' ∧ RSt K m H' r s' ∧ OutS K Wx m H' Z (forI t body n k (i + 1) r h), fun s' H' p => ⟨k, Nat.lt_succ_self _, p⟩, fun x H' y => ?_⟩
        obtain ⟨rfl, y⟩ := y
        have hx := y vs hq
        rw [hv] at hx; cases hx
        split at e1
        · exact e1.elim
        · rename_i r2 er
          exact ⟨m, h, r, d, r2, w1, st1, rd, er, fun s2 st2 => ⟨m, r2, h, w1, st2, OutS.body (next := forI t body n k (i + 1)) e1 fun m' H' h' r s g' w' st' e' => ⟨m', r, h', g.trans g', w', st', e'⟩⟩⟩
theorem whileD {f : Ev → Hh → Rs D} {body : Ev → Hh → Rs Fl} {Z : Ends} {m0 : List Addr} {H0 : Hp} {h0 : Hh} {r0 : Ev} {s0 : Sg}
    (w : Wd K m0 h0 H0) (st : RSt K m0 H0 r0 s0) (e : OutS K Wx m0 H0 Z (whileF f body W r0 h0)) : tWhile (TDT K f) (TDS K Wx body) Z s0 H0 := by
  refine ⟨fun k s H => ∃ m r h, Gr K m0 H0 m H ∧ Wd K m h H ∧ RSt K m H r s ∧ OutS K Wx m H Z (whileF f body k r h), ⟨W, m0, r0, h0, .refl, w, st, e⟩, ?_⟩
  rintro k s H ⟨m, r, h, g, w1, st1, e1⟩
  cases k with
  | zero => exact e1.elim
  | succ k =>
    simp only [whileF] at e1
    obtain ⟨x, h1, ex, e1⟩ := e1.nx
    split at e1
    · exact e1.elim
    · rename_i et
      exact ⟨m, r, h, x, h1, false, w1, st1, ex, et, fun m' H' g' w' => iteF (e1 m' H' g' w' s (st1.mono g'))⟩
    · rename_i et
      exact ⟨m, r, h, x, h1, true, w1, st1, ex, et, fun m' H' g' w' => iteT ⟨fun s' H' => ∃ m r h, Gr K m0 H0 m H' ∧ Wd K m h H' ∧ RSt K m H' r s' ∧ OutS K Wx m H' Z (whileF f body k r h), fun s' H' p => ⟨k, Nat.lt_succ_self _, p⟩,
        m', r, h1, w', st1.mono g', OutS.body (next := whileF f body k) (e1.mono g') fun m3 H3 h3 r s g3 w3 st' e' => ⟨m3, r, h3, (g.trans g').trans g3, w3, st', e'⟩⟩⟩
end
end Ng
end
section
set_option Elab.async false
set_option linter.all false
set_option maxRecDepth 100000
set_option maxHeartbeats 4000000
set_option autoImplicit false
namespace Ng
open PySem PySem.Spec PyProof.Rows L2
theorem own1 {K : PySem.W.Frag} {hp : Heap} {C : Addr} {bmB : List Value} {nid : String} (KX : K.In hp) (hq0 : PySem.W.excIn K C bmB nid = true) :
    ∃ bm N nm qn bs hdct sn sub ab col dd k0 k1 k2 k3 k5 mN, hp.get? C = some (excClassObj nm qn C N bs bm hdct sn sub ab col dd k0 k1 k2 k3 k5 nid) ∧ hp.Ns N mN ∧ mN "__init__" = none ∧ OwnTail hp bmB bm := by
  unfold PySem.W.excIn at hq0
  split at hq0
  · rename_i dd cdt slots hob
    split at hq0
    · rename_i C0 bm k0 k1 k2 k3 n0 k5 hmro hsl
      simp only [Bool.and_eq_true, beq_iff_eq, Bool.not_eq_true'] at hq0
      obtain ⟨⟨⟨⟨⟨eC, en⟩, edel⟩, etl⟩, ens⟩, eni⟩ := hq0
      subst eC; subst en
      obtain ⟨nm, bs, mro, ns, qn, hd, sn, sub, ab, col, del⟩ := cdt
      dsimp only at hmro edel ens eni
      subst hmro; subst edel
      obtain ⟨sl⟩ := slots
      simp only at hsl
      subst hsl
      exact ⟨bm, ns, nm, qn, bs, hd, sn, sub, ab, col, dd, k0, k1, k2, k3, k5, _, KX _ _ hob, .of_isNs (PySem.W.isNs_of_in KX ens), PySem.W.nsMap_none_of_in KX ens eni, PySem.W.tail_of_in KX etl⟩
    · cases hq0
  · cases hq0
section
variable {X : Cx} {ca : Nat → Addr} {Wx : Ws}
theorem ps_raise {c : Nat} {y z : Str} {np cp0 cp pos : Pos} {j : Nat} (xx : XX X ca Wx true) (calm : X.calm = true) (hg : Gl X y) (hm : X.mg y = some (.ref (ca c))) (ef : ExcF X.K (ca c)) (hd : (y == ("__debug__" : Str)) = false) :
    PS X (.Raise (some (.Call (.Name y np) [.Constant (.str z) j cp0] [] cp)) none pos) (fun _ σ H => Wx c σ H) := by
  intro pins s σ H D I hW
  obtain ⟨bm, N, nm, qn, bs, hdct, sn, sub, ab, col, dd, k0, k1, k2, k3, k5, mN, hC, hN, hni, TL⟩ := own1 I.ok.mod.kin ef.own
  refine wpAny_Raise_call_subT (C := ca c) (nm := nm) (q := qn) (N := N) (bs := bs) (bm := bm) (hdct := hdct) (sn := sn) (sub := sub) (ab := ab) (col := col) (dd := dd) (k0 := k0) (k1 := k1) (k2 := k2) (k3 := k3) (k5 := k5) (mN := mN) PySem.F.excBase_ValueError
    (TL.hasType PySem.F.excBase_ValueError.hasBase) (I.ok.hd calm) rfl hni (ld_glob I hg hm ⟨rfl, ?_⟩ hd)
  have hA : PA X [.Constant (.str z) j cp0] (tCons (tC (.str z)) tNil) := pa_cons pe_str pa_nil
  refine Calls.evalArgs_plain (thn (hA cp pins s σ H (fun vs H1 => vs = [.str z] ∧ Wx c σ H1) I ⟨rfl, hW⟩) fun us s2 ⟨vs, H2, I2, r2, ev, q⟩ => ?_)
  subst ev
  refine ⟨rfl, ?_, I2.bk _ _ hC, hN.keeps I2.bk, TL.keeps I2.bk, fun h' e hx => xx.made rfl pins σ H2 s2 h' e c us I2 hx q⟩
  rw [← r2.length]
  show 1 ≤ sizeLine
  rw [sizeLine_eq]; decide
end
def TXC (K : PySem.W.Frag) (Wx : Ws) (f : Ev → Hh → Rs D) : TE := fun s H Q => ∃ m r h, Wd K m h H ∧ RSt K m H r s ∧ (match f r h with
  | .ok d h' => ∀ m' v H', Gr K m H m' H' → Wd K m' h' H' → RD K m' H' d v → Q v H'
  | .exc c _ h' => ∀ m' H', Gr K m H m' H' → Wd K m' h' H' → Wx c s H'
  | .bad => False)
section
variable {X : Cx} {N : List Str} {sc : Scope} {G : Gs} {ca : Nat → Addr} {cl : Cl} {Wx : Ws} {rz : Bool}
theorem pe_callX (xo : XOk X N sc) (go : GOk X G ca cl) (hfn : ∀ x, X.fn x = true) (xx : XX X ca Wx rz) {f : Nat} {l : Es} {y : Str} {np pos : Pos} {e : PySem.Expr} {es : List PySem.Expr} (h1 : G.fns[f]? = some y) (h2 : glB sc y = true) (h3 : noDbg y = true) (h4 : chks N sc G l (e :: es) = true) :
    PE X (.Call (.Name y np) (e :: es) [] pos) (TXC X.K Wx fun r h => (evs G cl l r h).nx.bind fun ds h => cl f ds h) := by
  obtain ⟨d1, d2, d3⟩ := noDbg_ok h3
  obtain ⟨fa, fd, ps, k, F, hr, hm, hk, hb, hlen⟩ := go.fn f y h1
  have h5 : noStar e = true ∧ ∃ l', chks N sc G l' es = true := by
    cases l with
    | nil => exact absurd (show false = true from h4) Bool.false_ne_true
    | cons c l' =>
      have h6 : (noStar e && chk N sc G c e && chks N sc G l' es) = true := h4
      simp only [Bool.and_eq_true] at h6
      exact ⟨h6.1.1, l', h6.2⟩
  obtain ⟨h5, l', h6⟩ := h5
  intro pins s σ H Q I ⟨m, r, h, w, st, o⟩
  cases he : evs G cl l r h with
  | bad => simp only [he] at o; exact o.elim
  | exc c rr hh => simp only [he] at o; exact o.elim
  | ok ds hh =>
    simp only [he] at o
    refine wpAny_Call_Name_kw (ld_glob I (glB_ok xo h2) hm ?_ d1)
    refine PySem.W.callWith_K (h₀ := X.base) I.ok.mod.kin hk (thn (sA xo go l (e :: es) h4 pos pins s σ H (fun vs H1 => ∃ m1, Gr X.K m H m1 H1 ∧ Wd X.K m1 hh H1 ∧ RDs X.K m1 H1 ds vs) I ⟨m, r, h, ds, hh, w, st, he, fun m' vs H' g w' rd => ⟨m', g, w', rd⟩⟩) fun us s1 ⟨vs, H1, I1, r1, m1, g1, w1, rd1⟩ => ⟨I1.kIn, ?_⟩) (star_one es h5) (back_none pos h6)
    have hsp : spD X.K ca (cl f) ps.length vs H1 Q (fun v oa H' => ∃ c, oa = some (ca c) ∧ Wx c σ H') := by
      have hne : cl f ds hh ≠ .bad := fun z => by
        have o' : (match cl f ds hh with | .ok d h' => ∀ m' v H', Gr X.K m H m' H' → Wd X.K m' h' H' → RD X.K m' H' d v → Q v H' | .exc c _ h' => ∀ m' H', Gr X.K m H m' H' → Wd X.K m' h' H' → Wx c σ H' | .bad => False) := o
        rw [z] at o'
        exact o'
      refine ⟨by rw [← rd1.length]; exact hlen _ _ hne, m1, hh, ds, w1, rd1, ?_⟩
      have o' : (match cl f ds hh with | .ok d h' => ∀ m' v H', Gr X.K m H m' H' → Wd X.K m' h' H' → RD X.K m' H' d v → Q v H' | .exc c _ h' => ∀ m' H', Gr X.K m H m' H' → Wd X.K m' h' H' → Wx c σ H' | .bad => False) := o
      cases hc : cl f ds hh with
      | ok d h' =>
        rw [hc] at o'
        exact fun m' v H' g => o' m' v H' (g1.trans g)
      | exc c rr h' =>
        rw [hc] at o'
        exact fun m' H' v g w' => ⟨c, rfl, o' m' H' (g1.trans g) w'⟩
      | bad => exact hne hc
    have hl : us.length = ps.length := by rw [← r1.length]; exact F.len _ _ _ _ hsp
    have hbd : BindsTo s1 fd ⟨us, []⟩ (ps.zip us) := by
      have := hb s1 us I1.kIn (by simpa using hl)
      simpa using this
    refine wpAny_call (codeAny_mono (F.run X.A X.stack s1 H1 ⟨us, []⟩ us vs Q _ hr I1.env0 hbd r1 hsp) fun res s' hq => ?_)
    cases res with
    | error ev =>
      have hq' : CX1 X.prog X.w X.stack H1 s1 (fun v oa H' => ∃ c, oa = some (ca c) ∧ Wx c σ H') ev s' := hq
      obtain ⟨H', ea, C, rfl, I', ⟨B, FX⟩, c, hC, hW⟩ := arrive I1 xx.ex hfn hq'
      cases hC
      exact xx.fly pins σ H' s' ea c I' ⟨B, FX⟩ hW
    | ok fl =>
      cases fl with
      | ret u => exact I1.after hq
      | next => exact False.elim hq
      | brk => exact False.elim hq
      | cont => exact False.elim hq
/-- an expression that may raise, then what is done with its value -/
theorem TDS.oneX {K : PySem.W.Frag} {fa : Ev → Hh → Rs D} {f : Ev → Hh → Rs Fl} {k : Ev → D → Hh → Rs Fl} {s : Sg} {H : Hp} {Z : Ends} {R : VK} (hf : ∀ r h, f r h = ((fa r h).inn r).bind (k r)) (q : TDS K Wx f Z s H)
    (c : ∀ (m2 : List Addr) (r : Ev) (h2 : Hh) (H2 : Hp) (dx : D) (x : V), Wd K m2 h2 H2 → RSt K m2 H2 r s → RD K m2 H2 dx x → OutS K Wx m2 H2 Z (k r dx h2) → R x H2) : TXC K Wx fa s H R := by
  obtain ⟨m, r, h, w, st, o⟩ := q
  rw [hf] at o
  refine ⟨m, r, h, w, st, ?_⟩
  cases he : fa r h with
  | bad => rw [he] at o; exact o
  | exc c' rr hh =>
    rw [he] at o
    exact fun m' H' g w' => o m' H' s g w' (st.mono g)
  | ok dx hh =>
    rw [he] at o
    exact fun m' v H' g w' rd => c m' r hh H' dx v w' (st.mono g) rd (OutS.mono g o)
/-- an expression, then what is done with its value -/
theorem TDS.one {K : PySem.W.Frag} {fa : Ev → Hh → Rs D} {f : Ev → Hh → Rs Fl} {k : Ev → D → Hh → Rs Fl} {s : Sg} {H : Hp} {Z : Ends} {R : VK} (hf : ∀ r h, f r h = (fa r h).nx.bind (k r)) (q : TDS K Wx f Z s H)
    (c : ∀ (m2 : List Addr) (r : Ev) (h2 : Hh) (H2 : Hp) (dx : D) (x : V), Wd K m2 h2 H2 → RSt K m2 H2 r s → RD K m2 H2 dx x → OutS K Wx m2 H2 Z (k r dx h2) → R x H2) : TDE K fa s H R := by
  obtain ⟨m, r, h, w, st, o⟩ := q
  rw [hf] at o
  obtain ⟨dx, h1, e1, o⟩ := o.nx
  exact ⟨m, r, h, dx, h1, w, st, e1, fun m1 x H1 g1 w1 rx => c m1 r h1 H1 dx x w1 (st.mono g1) rx (o.mono g1)⟩
end
section
variable {X : Cx} {N : List Str} {sc : Scope} {G : Gs} {ca : Nat → Addr} {cl : Cl} {e : Addr} {oe : Obj} {c : Nat}
def hslot (N : List Str) (e : Addr) (n : Option Str) (σ : Sg) : Prop := ∀ x, n = some x → ∃ j : Nat, N[j]? = some x ∧ σ[j]? = some (some (.ref e))
def cstV : Sum Bool Str → V
  | .inl b => .bl b
  | .inr x => .str x
def hrunS (sub : List (Nat × Nat)) (c : Nat) : List HS → Sg → Option Sg
  | [], r => some r
  | .bl i b :: l, r => match b.run sub c with
    | some v => hrunS sub c l (r.set i (some (.bl v)))
    | none => none
  | .cst i d :: l, r => hrunS sub c l (r.set i (some (cstV d)))
theorem hrun_rel {K : PySem.W.Frag} {m : List Addr} {H : Hp} {sub : List (Nat × Nat)} : ∀ {hs : List HS} {r r' : Ev} {σ : Sg}, hrun sub c hs r = some r' → RSt K m H r σ → ∃ σ', hrunS sub c hs σ = some σ' ∧ RSt K m H r' σ'
  | [], r, r', σ, h, st => by cases h; exact ⟨σ, rfl, st⟩
  | .bl i b :: l, r, r', σ, h, st => by
    simp only [hrun] at h
    split at h
    · rename_i v ev
      obtain ⟨σ', e1, e2⟩ := hrun_rel h (st.set i (.bl v))
      exact ⟨σ', by simp only [hrunS, ev]; exact e1, e2⟩
    · cases h
  | .cst i d :: l, r, r', σ, h, st => by
    have rd : RD K m H (cstD d) (cstV d) := by cases d <;> constructor
    obtain ⟨σ', e1, e2⟩ := hrun_rel (show hrun sub c l (r.set i (some (cstD d))) = some r' from h) (st.set i rd)
    exact ⟨σ', e1, e2⟩
theorem isx_call (go : GOk X G ca cl) (hc : oe.cls = .ref (ca c)) : CallR (hX X e oe) (.builtin "isinstance") (fun xs H Q => ∃ t, xs = [.ref e, t] ∧ ((∃ k, t = .ref (ca k) ∧ (c, k) ∈ G.sub) ∨ (t = .ty "ValueError" ∧ ExcF X.K (ca c))) ∧ Q (.bl true) H) := by
  intro pins s σ H xs us Q I r ⟨t, ex, ht, q⟩
  subst ex
  obtain ⟨u1, u2, rfl, r1, r2⟩ := vals2R r
  cases r1
  have pin := I.pin (e, oe) (List.mem_append_left _ List.mem_cons_self)
  have LT : PySem.W.Looks (model (hX X e oe).prog (hX X e oe).w) s.heap (typeOf (.ref e)) (.ref (ca c)) := hc ▸ (PySem.W.Looks.ld pin.1).andThen .now
  have kit : PySem.W.kitOne X.K (.ref (ca c)) u2 = some true := by
    rcases ht with ⟨k, rfl, hk⟩ | ⟨rfl, ef⟩
    · cases r2
      exact (go.sub _ hk).2.1
    · cases r2
      exact ef.val
  exact kip LT I.kIn kit (fun z => nomatch z) ⟨.bl true, H, I, rfl, q⟩
theorem isx_inv {n : Option Str} {k : Nat} {v : PySem.Expr} (h : chkHB sc G n (.isx k) v = true) : ∃ f fp x xp y yp pos, v = .Call (.Name f fp) [.Name x xp, .Name y yp] [] pos ∧ (f == ("isinstance" : Str) && glB sc f && n == some x && noDbg x && G.excs[k]? == some y && glB sc y && noDbg y) = true := by
  unfold chkHB at h
  split at h <;> first | (cases h; done) | skip
  · rename_i f fp x xp y yp pos e
    injection e with e; subst e
    exact ⟨f, fp, x, xp, y, yp, pos, rfl, h⟩
  · rename_i e; cases e
  · rename_i e; cases e
theorem isv_inv {n : Option Str} {v : PySem.Expr} (h : chkHB sc G n .isv v = true) : ∃ f fp x xp y yp pos, v = .Call (.Name f fp) [.Name x xp, .Name y yp] [] pos ∧ (f == ("isinstance" : Str) && glB sc f && n == some x && noDbg x && y == ("ValueError" : Str) && glB sc y) = true := by
  unfold chkHB at h
  split at h <;> first | (cases h; done) | skip
  · rename_i e; cases e
  · rename_i f fp x xp y yp pos e
    exact ⟨f, fp, x, xp, y, yp, pos, rfl, h⟩
  · rename_i e; cases e
theorem pe_hb (xo : XOk X N sc) (go : GOk X G ca cl) (hc : oe.cls = .ref (ca c)) (ef : ExcF X.K (ca c)) {n : Option Str} (hn : ∀ x, n = some x → sc.names.lookup x = some .local) : ∀ (b : HB) (v : PySem.Expr), chkHB sc G n b v = true →
    PE (hX X e oe) v (fun σ H Q => hslot N e n σ ∧ ∃ bv, b.run G.sub c = some bv ∧ Q (.bl bv) H) := by
  have hgl : ∀ {x : Str}, glB sc x = true → Gl (hX X e oe) x := fun h => glB_ok xo h
  have isi : (("isinstance" : Str) == ("__debug__" : Str)) = false := by decide +kernel
  have isn : ("isinstance" : Str) ≠ "__name__" := by decide +kernel
  have common : ∀ {x y : Str} {fp xp yp pos : Pos} {t : V}, glB sc "isinstance" = true → n = some x → noDbg x = true → PE (hX X e oe) (.Name y yp) (tC t) → PE (hX X e oe) (.Call (.Name "isinstance" fp) [.Name x xp, .Name y yp] [] pos)
      (fun σ H Q => hslot N e n σ ∧ ((∃ k, t = .ref (ca k) ∧ (c, k) ∈ G.sub) ∨ (t = .ty "ValueError" ∧ ExcF X.K (ca c))) ∧ Q (.bl true) H) := fun {x y fp xp yp pos t} hgi hx hdx hy => by
    intro pins s σ H Q I ⟨hs, ht, q⟩
    obtain ⟨j, hj, hσ⟩ := hs x hx
    obtain ⟨d1, d2, d3⟩ := noDbg_ok hdx
    have px : PE (hX X e oe) (.Name x xp) (tVar j) := pv (X := hX X e oe) j (by show X.N[j]? = some x; rw [xo.n]; exact hj) (.inl (by show X.env.scope.names.lookup x = _; rw [xo.s]; exact hn x hx)) d1 d2
    have hA : PA (hX X e oe) [.Name x xp, .Name y yp] (tCons (tVar j) (tCons (tC t) tNil)) := pa_cons px (pa_cons hy pa_nil)
    have p := pe_callB (X := hX X e oe) (p := fp) (pos := pos) (isx_call (e := e) go hc) (hgl hgi) (go.blt .isinst) (boot_blt .isinst) hA isn isi
    exact p pins s σ H Q I ⟨.ref e, hσ, t, rfl, ht, q⟩
  intro b
  induction b with
  | isx k =>
    intro v h
    obtain ⟨f, fp, x, xp, y, yp, pos, rfl, h'⟩ := isx_inv h
    · simp only [Bool.and_eq_true, beq_iff_eq] at h'
      obtain ⟨⟨⟨⟨⟨⟨rfl, h2⟩, h3⟩, h4⟩, h5⟩, h6⟩, h7⟩ := h'
      obtain ⟨hm, _⟩ := go.exc k y h5
      obtain ⟨d1, d2, d3⟩ := noDbg_ok h7
      have py : PE (hX X e oe) (.Name y yp) (tC (.ref (ca k))) := pe_glob (X := hX X e oe) (hgl h6) hm rfl d1
      refine (common (t := .ref (ca k)) h2 h3 h4 py).wk fun σ H Q ⟨hs, bv, ev, q⟩ => ?_
      simp only [HB.run] at ev
      split at ev
      · rename_i hk
        cases ev
        exact ⟨hs, .inl ⟨k, rfl, hk⟩, q⟩
      · cases ev
  | isv =>
    intro v h
    obtain ⟨f, fp, x, xp, y, yp, pos, rfl, h'⟩ := isv_inv h
    · simp only [Bool.and_eq_true, beq_iff_eq] at h'
      obtain ⟨⟨⟨⟨⟨rfl, h2⟩, h3⟩, h4⟩, rfl⟩, h6⟩ := h'
      have py : PE (hX X e oe) (.Name "ValueError" yp) (tC (.ty "ValueError")) := pe_bltn (X := hX X e oe) (hgl h6) go.verr (by decide +kernel) rfl
      refine (common (t := .ty "ValueError") h2 h3 h4 py).wk fun σ H Q ⟨hs, bv, ev, q⟩ => ?_
      cases ev
      exact ⟨hs, .inr ⟨rfl, ef⟩, q⟩
  | and a b iha ihb =>
    intro v h
    cases v <;> first | exact absurd (show false = true from h) Bool.false_ne_true | skip
    rename_i op es pos
    cases op <;> first | exact absurd (show false = true from h) Bool.false_ne_true | skip
    rcases es with _ | ⟨x, _ | ⟨y, _ | ⟨z, es⟩⟩⟩ <;> first | exact absurd (show false = true from h) Bool.false_ne_true | skip
    have h' : (chkHB sc G n a x && chkHB sc G n b y) = true := h
    simp only [Bool.and_eq_true] at h'
    have hb2 : PE (hX X e oe) (.BoolOp .And [y] pos) _ := pe_one (ihb y h'.2)
    refine (pe_andG (iha x h'.1) hb2).wk fun σ H Q ⟨hs, bv, ev, q⟩ => ?_
    simp only [HB.run] at ev
    split at ev
    · rename_i y' e1 e2
      cases ev
      exact ⟨hs, true, e1, true, rfl, iteT ⟨hs, _, e2, q⟩⟩
    · cases ev
end
end Ng
end
section
set_option Elab.async false
set_option linter.all false
set_option maxRecDepth 100000
set_option maxHeartbeats 4000000
set_option autoImplicit false
namespace Ng
open PySem PySem.Spec PyProof.Rows L2
theorem noComp_sw {env : Env} {v : PySem.Expr} {t : Option PySem.Expr} {l : Nat} (h : noComp v = true) : swapsWith v t l env = pure false := by
  cases v <;> first | rfl | (cases h; done)
theorem noComp_sole {env : Env} {v tg : PySem.Expr} {l : Nat} (h : noComp v = true) : swapsWithSole [tg] v l env = pure false := noComp_sw (t := some tg) h
section
variable {X : Cx} {N : List Str} {sc : Scope} {G : Gs} {ca : Nat → Addr} {cl : Cl} {e : Addr} {oe : Obj} {c : Nat}
theorem hslot.set {n : Option Str} {σ : Sg} {i : Nat} {x : Str} {v : Option V} (h : hslot N e n σ) (hi : N[i]? = some x) (hx : (n == some x) = false) : hslot N e n (σ.set i v) := fun y hy => by
  obtain ⟨j, h1, h2⟩ := h y hy
  refine ⟨j, h1, ?_⟩
  have : i ≠ j := fun z => by
    subst z
    rw [hi] at h1
    cases h1
    rw [hy] at hx
    simp at hx
  rw [List.getElem?_set_ne this]
  exact h2
def HS.ix : HS → Nat
  | .bl i _ => i
  | .cst i _ => i
theorem ps_hs (xo : XOk X N sc) (go : GOk X G ca cl) (hfn : ∀ x, X.fn x = true) (hc : oe.cls = .ref (ca c)) (ef : ExcF X.K (ca c)) {n : Option Str} (hn : ∀ x, n = some x → sc.names.lookup x = some .local) (a : HS) (st : PySem.Stmt) (h : chkHS N sc G n a st = true) :
    (∃ x, N[a.ix]? = some x ∧ (n == some x) = false) ∧ PS (hX X e oe) st (fun D σ H => hslot N e n σ ∧ ∃ σ', hrunS G.sub c [a] σ = some σ' ∧ D.nx σ' H) := by
  have nd : (hX X e oe).N.Nodup := xo.nd
  unfold chkHS at h
  split at h <;> first | (cases h; done) | skip
  · rename_i i b x xp v pos
    simp only [Bool.and_eq_true, beq_iff_eq, Bool.not_eq_true'] at h
    obtain ⟨⟨⟨⟨h1, h2⟩, h3⟩, h4⟩, h5⟩ := h
    refine ⟨⟨x, h1, h3⟩, (ps_set (X := hX X e oe) (i := i) nd (by show X.N[i]? = some x; rw [xo.n]; exact h1) (by show Loc X.env.scope x; rw [xo.s]; exact locB_ok h2) (pe_hb xo go hc ef hn b v h5) (noComp_sw h4) (.inl (hfn x))).wk fun D σ H ⟨hs, σ', er, q⟩ => ?_⟩
    simp only [hrunS] at er
    split at er
    · rename_i bv eb
      cases er
      exact ⟨hs, bv, eb, q⟩
    · cases er
  · rename_i i b x xp bb j cp pos
    simp only [Bool.and_eq_true, beq_iff_eq, Bool.not_eq_true'] at h
    obtain ⟨⟨⟨h1, h2⟩, h3⟩, rfl⟩ := h
    refine ⟨⟨x, h1, h3⟩, (ps_set (X := hX X e oe) (i := i) nd (by show X.N[i]? = some x; rw [xo.n]; exact h1) (by show Loc X.env.scope x; rw [xo.s]; exact locB_ok h2) pe_bl rfl (.inl (hfn x))).wk fun D σ H ⟨hs, σ', er, q⟩ => ?_⟩
    cases er
    exact q
  · rename_i i y x xp z j cp pos
    simp only [Bool.and_eq_true, beq_iff_eq, Bool.not_eq_true'] at h
    obtain ⟨⟨⟨h1, h2⟩, h3⟩, rfl⟩ := h
    refine ⟨⟨x, h1, h3⟩, (ps_set (X := hX X e oe) (i := i) nd (by show X.N[i]? = some x; rw [xo.n]; exact h1) (by show Loc X.env.scope x; rw [xo.s]; exact locB_ok h2) pe_str rfl (.inl (hfn x))).wk fun D σ H ⟨hs, σ', er, q⟩ => ?_⟩
    cases er
    exact q
theorem hrunS_cons {sub : List (Nat × Nat)} {a : HS} {l : List HS} {σ σ' : Sg} (h : hrunS sub c (a :: l) σ = some σ') : ∃ v, hrunS sub c [a] σ = some (σ.set a.ix (some v)) ∧ hrunS sub c l (σ.set a.ix (some v)) = some σ' := by
  cases a with
  | bl i b =>
    simp only [hrunS] at h ⊢
    split at h
    · rename_i v ev
      exact ⟨.bl v, rfl, h⟩
    · cases h
  | cst i d => exact ⟨cstV d, rfl, h⟩
theorem pss_hs (xo : XOk X N sc) (go : GOk X G ca cl) (hfn : ∀ x, X.fn x = true) (hc : oe.cls = .ref (ca c)) (ef : ExcF X.K (ca c)) {n : Option Str} (hn : ∀ x, n = some x → sc.names.lookup x = some .local) : ∀ (l : List HS) (es : List PySem.Stmt), chkHSs N sc G n l es = true →
    PSs (hX X e oe) es (fun D σ H => hslot N e n σ ∧ ∃ σ', hrunS G.sub c l σ = some σ' ∧ D.nx σ' H)
  | [], [], _ => (pss_nil).wk fun D σ H ⟨_, σ', er, q⟩ => by cases er; exact q
  | a :: l, x :: r, h => by
    have h' : (chkHS N sc G n a x && chkHSs N sc G n l r) = true := h
    simp only [Bool.and_eq_true] at h'
    obtain ⟨⟨y, hy1, hy2⟩, p⟩ := ps_hs (e := e) (oe := oe) xo go hfn hc ef hn a x h'.1
    refine (pss_cons p (pss_hs xo go hfn hc ef hn l r h'.2)).wk fun D σ H ⟨hs, σ', er, q⟩ => ?_
    obtain ⟨v, e1, e2⟩ := hrunS_cons er
    exact ⟨hs, _, e1, hs.set hy1 hy2, σ', e2, q⟩
  | [], _ :: _, h => absurd (show false = true from h) Bool.false_ne_true
  | _ :: _, [], h => absurd (show false = true from h) Bool.false_ne_true
end
def tX (X : Cx) (pins : List (Addr × Obj)) (E : Value → Shared → Prop) : Cx := { X with pn := X.pn ++ pins, xe := E }
section
variable {X : Cx} {pins pins' : List (Addr × Obj)} {E : Value → Shared → Prop} {σ : Sg} {H : Hp} {s : Shared}
theorem tX_in (I : Inv X pins σ H s) : Inv (tX X pins E) [] σ H s :=
  ⟨⟨I.ok.mod, I.ok.kind, I.ok.glob, I.ok.blt, I.ok.above, I.ok.inj, I.ok.has, I.ok.cab, I.ok.hd, I.ok.frames, I.ok.stk, I.ok.exf, I.ok.bs, I.ok.bsz, I.ok.noex, I.ok.exfs, I.ok.funs, I.ok.frf⟩, I.os, I.bare, I.base, I.loc, I.cell, I.free, I.freeC, fun p hp => I.pin p (by rw [List.append_nil] at hp; exact hp), I.hok, I.len⟩
theorem tX_out (I : Inv (tX X pins E) pins' σ H s) : Inv X pins σ H s :=
  ⟨⟨I.ok.mod, I.ok.kind, I.ok.glob, I.ok.blt, I.ok.above, I.ok.inj, I.ok.has, I.ok.cab, I.ok.hd, I.ok.frames, I.ok.stk, I.ok.exf, I.ok.bs, I.ok.bsz, I.ok.noex, I.ok.exfs, I.ok.funs, I.ok.frf⟩, I.os, I.bare, I.base, I.loc, I.cell, I.free, I.freeC, fun p hp => I.pin p (List.mem_append_left _ hp), I.hok, I.len⟩
theorem tX_fly {e C : Addr} {B : Heap} (F : FlyX (tX X pins E) pins' H e C s B) : FlyX X pins H e C s B := ⟨F.fly, fun p hp => F.pc1 p (List.mem_append_left _ hp), F.pc2⟩
end
section
variable {X : Cx} {N : List Str} {sc : Scope} {G : Gs} {ca : Nat → Addr} {cl : Cl} {Wx : Ws} {rz : Bool}
/-- the wish of a try's body -/
def Wt (K : PySem.W.Frag) (Wx : Ws) (Z : Ends) (G : Gs) (g : Nat) (j : Option Nat) (hs : List HS) : Ws := fun c σ H => ∃ m r h, Wd K m h H ∧ RSt K m H r σ ∧ OutS K Wx m H Z (catchD G.sub g j hs (.exc c r h))
theorem RSt.clr {K : PySem.W.Frag} {m : List Addr} {H : Hp} {r : Ev} {σ : Sg} (st : RSt K m H r σ) (j : Nat) (v : Option V) : RSt K m H (r.set j none) (σ.set j v) := by
  refine ⟨by simp [st.1], fun i d e => ?_⟩
  by_cases hij : j = i
  · subst hij
    by_cases hl : j < r.length
    · rw [List.getElem?_set_self hl] at e; cases e
    · rw [List.getElem?_eq_none (by simpa using hl)] at e; cases e
  · rw [List.getElem?_set_ne hij] at e ⊢
    exact st.2 i d e
theorem try_catch (xo : XOk X N sc) (go : GOk X G ca cl) (hfn : ∀ x, X.fn x = true) (xx : XX X ca Wx rz) {g : Nat} {j : Option Nat} {hs : List HS} {y : Str} {yp hp : Pos} {n : Option Str} {s0 : PySem.Stmt} {suite : List PySem.Stmt}
    (h1 : G.excs[g]? = some y) (h2 : glB sc y = true) (h3 : noDbg y = true) (h4 : chkJ N sc j n = true) (h5 : chkHSs N sc G n hs (s0 :: suite) = true) {Z : Ends} {pins : List (Addr × Obj)} {σ : Sg} {H : Hp} {s : Shared} {e : Addr} {c : Nat} {B : Heap}
    (I : Inv X pins σ H s) (F : FlyX X pins H e (ca c) s B) (hW : Wt X.K Wx Z G g j hs c σ H) :
    wpAny (model X.prog X.w) X.A (noteFrame (.ref e) X.env) (fun _ s2 => wpAny (model X.prog X.w) X.A (setFlight (.ref e) none) (fun _ s3 => wpAny (model X.prog X.w) X.A (handleBy (.ref e) X.env [.ExceptHandler (some (.Name y yp)) n (s0 :: suite) hp]) (SP X pins Z) X.xe s3) X.xe s2) X.xe s := by
  obtain ⟨m, r, h, w, st, o⟩ := hW
  obtain ⟨d1, d2, d3⟩ := noDbg_ok h3
  obtain ⟨hm, _⟩ := go.exc g y h1
  simp only [catchD] at o
  split at o
  case isFalse => exact o.elim
  case isTrue hsub =>
    split at o
    case h_2 => exact o.elim
    case h_1 r' er =>
      have ef := (go.sub _ hsub).2.2
      refine land I F xx.ex xx.stk (glB_ok xo h2) hm d1 (go.sub _ hsub).1 fun s5 I5 F5 => ?_
      cases j with
      | none =>
        cases n with
        | some n => exact absurd (show false = true from h4) Bool.false_ne_true
        | none =>
          refine suite0 I5 F5 xx.ex xx.stk fun oe s6 hc I6 => ?_
          obtain ⟨σ', es, st'⟩ := hrun_rel (c := c) er (show RSt X.K m H (clr none r) σ from st)
          refine wpAny_mono (pss_hs (e := e) (oe := oe) (n := none) xo go hfn hc ef (fun x z => by cases z) hs (s0 :: suite) h5 pins s6 σ H { nx := fun σ1 H1 => σ1 = σ' ∧ H1 = H, rt := fun _ _ => False } I6 ⟨(fun x z => by cases z), σ', es, rfl, rfl⟩) (fun f s7 q => ?_) fun _ _ z => z
          cases f with
          | next =>
            obtain ⟨σ1, H1, I7, z1, z2⟩ := q
            subst z1; subst z2
            exact ⟨_, _, hX_out I5.ok I7, o m _ .refl w _ st'⟩
          | brk => obtain ⟨_, _, _, z⟩ := q; exact z.elim
          | cont => obtain ⟨_, _, _, z⟩ := q; exact z.elim
          | ret u => obtain ⟨_, _, _, _, _, z⟩ := q; exact z.elim
      | some j =>
        cases n with
        | none => exact absurd (show false = true from h4) Bool.false_ne_true
        | some n =>
          have h4' : (N[j]? == some n && sc.names.lookup n == some .local) = true := h4
          simp only [Bool.and_eq_true, beq_iff_eq] at h4'
          have hl : X.env.scope.names.lookup n = some .local := by rw [xo.s]; exact h4'.2
          have hj : X.N[j]? = some n := by rw [xo.n]; exact h4'.1
          refine suiteA I5 F5 xx.ex xx.stk xo.nd hj hl fun oe s6 hc I6 => ?_
          obtain ⟨σ', es, st'⟩ := hrun_rel (c := c) er (show RSt X.K m H (clr (some j) r) (σ.set j (some (.ref e))) from st.clr j _)
          have hjσ : j < σ.length := by rw [I.len]; exact (List.getElem?_eq_some_iff.mp hj).1
          refine wpAny_mono (pss_hs (e := e) (oe := oe) (n := some n) xo go hfn hc ef (fun x z => by cases z; exact h4'.2) hs (s0 :: suite) h5 pins s6 (σ.set j (some (.ref e))) H { nx := fun σ1 H1 => σ1 = σ' ∧ H1 = H, rt := fun _ _ => False } I6 ⟨(fun x z => by cases z; exact ⟨j, h4'.1, List.getElem?_set_self hjσ⟩), σ', es, rfl, rfl⟩) (fun f s7 q => ?_) fun _ _ z => z
          cases f with
          | next =>
            obtain ⟨σ1, H1, I7, z1, z2⟩ := q
            subst z1; subst z2
            refine name_goes (hX_out I5.ok I7) xo.nd hj hl fun s8 I8 => ?_
            exact ⟨_, _, I8, o m _ .refl w _ (st'.clr j none)⟩
          | brk => obtain ⟨_, _, _, z⟩ := q; exact z.elim
          | cont => obtain ⟨_, _, _, z⟩ := q; exact z.elim
          | ret u => obtain ⟨_, _, _, _, _, z⟩ := q; exact z.elim
end
end Ng
end
section
set_option Elab.async false
set_option linter.all false
set_option maxRecDepth 100000
set_option maxHeartbeats 4000000
set_option autoImplicit false
namespace Ng
open PySem PySem.Spec PyProof.Rows L2
section
variable {X : Cx}
def gSt (K : PySem.W.Frag) : TSet := fun o i v H Q => ∃ m h x y z h', Wd K m h H ∧ RD K m H x o ∧ RD K m H y i ∧ RD K m H z v ∧ stxD x y z h = .ok () h' ∧ ∀ m' H', Gr K m H m' H' → Wd K m' h' H' → Q H'
theorem setD : PSet X (gSt X.K) := by
  intro pins s σ H o i v ov iv u Q I ro ri rv ⟨m, h, x, y, z, h', w, r1, r2, r3, e, c⟩
  cases r1 <;> first | (cases e; done) | skip
  rename_i n a ha
  cases r2 <;> first | (cases e; done) | skip
  rename_i k
  simp only [stxD] at e
  split at e
  · rename_i l el
    split at e
    · rename_i j ej
      cases e
      obtain ⟨vs, hv, rvs⟩ : ∃ vs, H a = some (.lst vs) ∧ RDs X.K m H l vs := w.ob n _ a el ha
      obtain ⟨_, w4, g4⟩ := w.lstSet el ha (rvs.set r3 j)
      exact set_list pins s σ H _ _ v ov iv u Q I ro ri rv ⟨a, vs, k, j, rfl, rfl, hv, by rw [← rvs.length]; exact ej, c m _ g4 w4⟩
    · cases e
  · cases e
end
mutual
theorem sS {X : Cx} {N : List Str} {sc : Scope} {G : Gs} {ca : Nat → Addr} {cl : Cl} {W : Nat} {Wx : Ws} {rz : Bool} (xo : XOk X N sc) (go : GOk X G ca cl) (hfn : ∀ x, X.fn x = true) (xx : XX X ca Wx rz) : ∀ (c : S) (e : PySem.Stmt), chkS N sc G c e = true → (rz = true ∨ noRs c = true) → PS X e (TDS X.K Wx (xs G cl W c))
  | .rais c x, e, h, hz => by
    have hi : ∃ y np z j cp0 cp pos, e = .Raise (some (.Call (.Name y np) [.Constant (.str z) j cp0] [] cp)) none pos ∧ (G.excs[c]? == some y && glB sc y && noDbg y && x == z) = true := by
      cases e <;> first | exact absurd (show false = true from h) Bool.false_ne_true | skip
      rename_i exc cause pos
      rcases exc with _ | ex <;> first | exact absurd (show false = true from h) Bool.false_ne_true | skip
      cases ex <;> first | exact absurd (show false = true from h) Bool.false_ne_true | skip
      rename_i f args kws cp
      cases f <;> first | exact absurd (show false = true from h) Bool.false_ne_true | skip
      rename_i y np
      rcases args with _ | ⟨a, _ | ⟨a2, as⟩⟩ <;> rcases kws with _ | ⟨kk, kws⟩ <;> rcases cause with _ | cs <;> first | exact absurd (show false = true from h) Bool.false_ne_true | skip
      all_goals (cases a <;> first | exact absurd (show false = true from h) Bool.false_ne_true | skip)
      all_goals (rename_i k j cp0; cases k <;> first | exact absurd (show false = true from h) Bool.false_ne_true | skip)
      exact ⟨_, _, _, _, _, _, _, rfl, h⟩
    obtain ⟨y, np, z, j, cp0, cp, pos, rfl, h'⟩ := hi
    simp only [Bool.and_eq_true, beq_iff_eq] at h'
    obtain ⟨⟨⟨h1, h2⟩, h3⟩, rfl⟩ := h'
    have er : rz = true := hz.elim id fun z => by cases z
    subst er
    obtain ⟨d1, d2, d3⟩ := noDbg_ok h3
    obtain ⟨hm, ef⟩ := go.exc c y h1
    refine (ps_raise xx xo.calm (glB_ok xo h2) hm ef d1).wk fun Z s H ⟨m, r, hh, w, st, o⟩ => ?_
    rw [xs] at o
    exact o m H s .refl w st
  | .asgX t f l, e, h, hz => by
    have hi : ∃ tg y np a as pos spos, e = .Assign [tg] (.Call (.Name y np) (a :: as) [] pos) spos ∧ chkT N sc t tg = true ∧ (G.fns[f]? == some y && glB sc y && noDbg y && chks N sc G l (a :: as)) = true := by
      cases t with
      | nm i =>
        cases e <;> first | exact absurd (show false = true from h) Bool.false_ne_true | skip
        rename_i tgs v spos
        rcases tgs with _ | ⟨tg, _ | ⟨t2, tgs⟩⟩ <;> first | exact absurd (show false = true from h) Bool.false_ne_true | skip
        all_goals (cases tg <;> first | exact absurd (show false = true from h) Bool.false_ne_true | skip)
        rename_i x xp
        all_goals (cases v <;> first | exact absurd (show false = true from h) Bool.false_ne_true | skip)
        all_goals (rename_i fe args kws pos; cases fe <;> first | exact absurd (show false = true from h) Bool.false_ne_true | skip)
        all_goals (rename_i y np; rcases args with _ | ⟨a, as⟩ <;> rcases kws with _ | ⟨kk, kws⟩ <;> first | exact absurd (show false = true from h) Bool.false_ne_true | skip)
        have h2 : (N[i]? == some x && locB sc x && G.fns[f]? == some y && glB sc y && noDbg y && chks N sc G l (a :: as)) = true := h
        simp only [Bool.and_eq_true] at h2
        refine ⟨.Name x xp, y, np, a, as, pos, spos, rfl, ?_, ?_⟩
        · show (N[i]? == some x && locB sc x) = true
          rw [Bool.and_eq_true]; exact h2.1.1.1.1
        · simp only [Bool.and_eq_true]; exact ⟨⟨⟨h2.1.1.1.2, h2.1.1.2⟩, h2.1.2⟩, h2.2⟩
      | tp is =>
        cases e <;> first | exact absurd (show false = true from h) Bool.false_ne_true | skip
        rename_i tgs v spos
        rcases tgs with _ | ⟨tg, _ | ⟨t2, tgs⟩⟩ <;> first | exact absurd (show false = true from h) Bool.false_ne_true | skip
        all_goals (cases tg <;> first | exact absurd (show false = true from h) Bool.false_ne_true | skip)
        rename_i ts tk tp
        all_goals (cases v <;> first | exact absurd (show false = true from h) Bool.false_ne_true | skip)
        all_goals (rename_i fe args kws pos; cases fe <;> first | exact absurd (show false = true from h) Bool.false_ne_true | skip)
        all_goals (rename_i y np; rcases args with _ | ⟨a, as⟩ <;> rcases kws with _ | ⟨kk, kws⟩ <;> first | exact absurd (show false = true from h) Bool.false_ne_true | skip)
        have h2 : (chkNs N sc is ts && G.fns[f]? == some y && glB sc y && noDbg y && chks N sc G l (a :: as)) = true := h
        simp only [Bool.and_eq_true] at h2
        refine ⟨.Tuple ts tk tp, y, np, a, as, pos, spos, rfl, h2.1.1.1.1, ?_⟩
        simp only [Bool.and_eq_true]; exact ⟨⟨⟨h2.1.1.1.2, h2.1.1.2⟩, h2.1.2⟩, h2.2⟩
    obtain ⟨tg, y, np, a, as, pos, spos, rfl, ht, h'⟩ := hi
    simp only [Bool.and_eq_true, beq_iff_eq] at h'
    obtain ⟨⟨⟨h1, h2⟩, h3⟩, h4⟩ := h'
    have pg := pgT xo hfn (t := t) ht
    have ae : (assignEach [tg] X.env).map (·.2) = [assign tg X.env] := by
      cases t with
      | nm i => cases tg <;> first | exact absurd (show false = true from ht) Bool.false_ne_true | rfl
      | tp is => cases tg <;> first | exact absurd (show false = true from ht) Bool.false_ne_true | rfl
    have sw : swappedStores [tg] (.Call (.Name y np) (a :: as) [] pos) X.env = pure none := by
      cases t with
      | nm i => cases tg <;> first | exact absurd (show false = true from ht) Bool.false_ne_true | rfl
      | tp is => cases tg <;> first | exact absurd (show false = true from ht) Bool.false_ne_true | rfl
    refine (ps_asg (pe_callX xo go hfn xx h1 h2 h3 h4) pg rfl sw ae).wk fun Z s H q => ?_
    refine TDS.oneX (k := fun r x h => match setT t x r with | some r1 => .ok (.nx r1) h | none => .bad) (fun r h => by rw [xs]; cases evs G cl l r h <;> rfl) q fun m2 r h2 H2 dx v w2 st2 rx o => ?_
    split at o
    · rename_i r1 er
      exact ⟨m2, _, r, dx, r1, w2, st2, rx, er, fun s' st' => o m2 H2 .refl w2 s' st'⟩
    · exact o.elim
  | .retX f l, e, h, hz => by
    have hi : ∃ y np a as pos spos, e = .Return (some (.Call (.Name y np) (a :: as) [] pos)) spos ∧ (G.fns[f]? == some y && glB sc y && noDbg y && chks N sc G l (a :: as)) = true := by
      cases e <;> first | exact absurd (show false = true from h) Bool.false_ne_true | skip
      rename_i v spos
      rcases v with _ | v <;> first | exact absurd (show false = true from h) Bool.false_ne_true | skip
      cases v <;> first | exact absurd (show false = true from h) Bool.false_ne_true | skip
      rename_i fe args kws pos
      cases fe <;> first | exact absurd (show false = true from h) Bool.false_ne_true | skip
      rename_i y np
      rcases args with _ | ⟨a, as⟩ <;> rcases kws with _ | ⟨kk, kws⟩ <;> first | exact absurd (show false = true from h) Bool.false_ne_true | skip
      exact ⟨_, _, _, _, _, _, rfl, h⟩
    obtain ⟨y, np, a, as, pos, spos, rfl, h'⟩ := hi
    simp only [Bool.and_eq_true, beq_iff_eq] at h'
    obtain ⟨⟨⟨h1, h2⟩, h3⟩, h4⟩ := h'
    refine (ps_ret (pe_callX xo go hfn xx h1 h2 h3 h4)).wk fun Z s H q => ?_
    exact TDS.oneX (k := fun r x h => .ok (.rt x) h) (fun r h => by rw [xs]; cases evs G cl l r h <;> rfl) q fun m2 r h2 H2 dx v w2 st2 rx o => o m2 H2 .refl w2 _ rx
  | .exX f l, e, h, hz => by
    have hi : ∃ y np a as pos spos, e = .Expr (.Call (.Name y np) (a :: as) [] pos) spos ∧ (G.fns[f]? == some y && glB sc y && noDbg y && chks N sc G l (a :: as)) = true := by
      cases e <;> first | exact absurd (show false = true from h) Bool.false_ne_true | skip
      rename_i v spos
      cases v <;> first | exact absurd (show false = true from h) Bool.false_ne_true | skip
      rename_i fe args kws pos
      cases fe <;> first | exact absurd (show false = true from h) Bool.false_ne_true | skip
      rename_i y np
      rcases args with _ | ⟨a, as⟩ <;> rcases kws with _ | ⟨kk, kws⟩ <;> first | exact absurd (show false = true from h) Bool.false_ne_true | skip
      exact ⟨_, _, _, _, _, _, rfl, h⟩
    obtain ⟨y, np, a, as, pos, spos, rfl, h'⟩ := hi
    simp only [Bool.and_eq_true, beq_iff_eq] at h'
    obtain ⟨⟨⟨h1, h2⟩, h3⟩, h4⟩ := h'
    refine (ps_expr (pe_callX xo go hfn xx h1 h2 h3 h4) rfl).wk fun Z s H q => ?_
    exact TDS.oneX (k := fun r x h => .ok (.nx r) h) (fun r h => by rw [xs]; cases evs G cl l r h <;> rfl) q fun m2 r h2 H2 dx v w2 st2 rx o => o m2 H2 .refl w2 _ st2
  | .tryx b g j hs, e, h, hz => by
    have hi : ∃ body y yp n s0 suite hp pos, e = .Try body [.ExceptHandler (some (.Name y yp)) n (s0 :: suite) hp] [] [] pos ∧ (G.excs[g]? == some y && glB sc y && noDbg y && chkJ N sc j n && noRss b && chkHSs N sc G n hs (s0 :: suite) && chkSs N sc G b body) = true := by
      cases e <;> first | exact absurd (show false = true from h) Bool.false_ne_true | skip
      rename_i body hds oe fb pos
      rcases hds with _ | ⟨hd, _ | ⟨hd2, hds⟩⟩ <;> rcases oe with _ | ⟨o1, oe⟩ <;> rcases fb with _ | ⟨f1, fb⟩ <;> first | exact absurd (show false = true from h) Bool.false_ne_true | skip
      all_goals (cases hd <;> first | exact absurd (show false = true from h) Bool.false_ne_true | skip)
      all_goals (rename_i ht n suite hp; rcases ht with _ | ht <;> first | exact absurd (show false = true from h) Bool.false_ne_true | skip)
      all_goals (cases ht <;> first | exact absurd (show false = true from h) Bool.false_ne_true | skip)
      all_goals (rcases suite with _ | ⟨s0, suite⟩ <;> first | exact absurd (show false = true from h) Bool.false_ne_true | skip)
      exact ⟨_, _, _, _, _, _, _, _, rfl, h⟩
    obtain ⟨body, y, yp, n, s0, suite, hp, pos, rfl, h'⟩ := hi
    simp only [Bool.and_eq_true, beq_iff_eq] at h'
    obtain ⟨⟨⟨⟨⟨⟨h1, h2⟩, h3⟩, h4⟩, h5⟩, h6⟩, h7⟩ := h'
    intro pins s σ H Z I ⟨m, r, hh, w, st, o⟩
    rw [xs] at o
    let E1 : Value → Shared → Prop := fun e1 s1 => wpAny (model X.prog X.w) X.A (noteFrame e1 X.env) (fun _ s2 => wpAny (model X.prog X.w) X.A (setFlight e1 none) (fun _ s3 => wpAny (model X.prog X.w) X.A (handleBy e1 X.env [.ExceptHandler (some (.Name y yp)) n (s0 :: suite) hp]) (SP X pins Z) X.xe s3) X.xe s2) X.xe s1
    have xo1 : XOk (tX X pins E1) N sc := ⟨xo.n, xo.s, xo.calm, xo.nd, xo.room, xo.rng, PassesOwn.looking⟩
    have go1 : GOk (tX X pins E1) G ca cl := ⟨go.fn, go.cst, go.blt, go.ty, go.exc, go.sub, go.verr⟩
    have xx1 : XX (tX X pins E1) ca (Wt X.K Wx Z G g j hs) false := ⟨xx.ex, xx.stk, fun pins' σ' H' s' e' c' I' ⟨B, F'⟩ hW => try_catch xo go hfn xx h1 h2 h3 h4 h6 (tX_out I') (tX_fly F') hW, fun z => by cases z⟩
    have pb := sSs (W := W) xo1 go1 hfn xx1 b body h7 (.inr h5)
    have q : TDS X.K (Wt X.K Wx Z G g j hs) (xss G cl W b) Z σ H := by
      refine ⟨m, r, hh, w, st, ?_⟩
      cases ho : xss G cl W b r hh with
      | bad => rw [ho] at o; exact o
      | ok fl h1 => rw [ho] at o; exact o
      | exc c' r' h1 =>
        rw [ho] at o
        exact fun m' H' s' g w' st' => ⟨m', r', h1, w', st', OutS.mono g o⟩
    refine wpAny_Try_except (wpAny_mono (pb [] s σ H Z (tX_in I) q) (fun f s1 q1 => ?_) fun e1 s1 q1 => q1)
    cases f with
    | next =>
      obtain ⟨σ1, H1, I1, z⟩ := q1
      exact pss_nil pins s1 σ1 H1 Z (tX_out I1) z
    | brk => obtain ⟨σ1, H1, I1, z⟩ := q1; exact ⟨σ1, H1, tX_out I1, z⟩
    | cont => obtain ⟨σ1, H1, I1, z⟩ := q1; exact ⟨σ1, H1, tX_out I1, z⟩
    | ret u => obtain ⟨v, σ1, H1, I1, rv, z⟩ := q1; exact ⟨v, σ1, H1, tX_out I1, rv, z⟩
  | .asg (.nm i) a, e, h, hz => by
    cases e <;> first | exact absurd (show false = true from h) Bool.false_ne_true | skip
    rename_i tgs v pos
    cases tgs with
    | nil => exact absurd (show false = true from h) Bool.false_ne_true
    | cons tg tgs =>
      cases tgs with
      | cons => cases tg <;> exact absurd (show false = true from h) Bool.false_ne_true
      | nil =>
        cases tg <;> first | exact absurd (show false = true from h) Bool.false_ne_true | skip
        rename_i x px
        have h' : (N[i]? == some x && locB sc x && noComp v && chk N sc G a v) = true := h
        simp only [Bool.and_eq_true, beq_iff_eq] at h'
        refine (ps_set (i := i) xo.nd (by rw [xo.n]; exact h'.1.1.1) (by rw [xo.s]; exact locB_ok h'.1.1.2) ((sET xo go a).1 v h'.2) (noComp_sw h'.1.2) (.inl (hfn x))).wk fun Z s H q => ?_
        refine TDS.one (fun r h => by rw [xs]) q fun m2 r h2 H2 dx y w2 st2 rx o => ?_
        exact o m2 H2 .refl w2 _ (st2.set i rx)
  | .asg (.tp l) a, e, h, hz => by
    cases e <;> first | exact absurd (show false = true from h) Bool.false_ne_true | skip
    rename_i tgs v pos
    cases tgs with
    | nil => exact absurd (show false = true from h) Bool.false_ne_true
    | cons tg tgs =>
      cases tgs with
      | cons => cases tg <;> exact absurd (show false = true from h) Bool.false_ne_true
      | nil =>
        cases tg <;> first | exact absurd (show false = true from h) Bool.false_ne_true | skip
        rename_i es k px
        have h' : (chkNs N sc l es && noComp v && noTup v && chk N sc G a v) = true := h
        simp only [Bool.and_eq_true] at h'
        have hw : swappedStores [.Tuple es k px] v X.env = pure none := by
          have h0 := h'.1.2
          cases v <;> first | rfl | (cases h0; done)
        refine (ps_asg ((sET xo go a).1 v h'.2) (pgT xo hfn (t := .tp l) (tg := .Tuple es k px) h'.1.1.1) (noComp_sole h'.1.1.2) hw rfl).wk fun Z s H q => ?_
        refine TDS.one (fun r h => by rw [xs]) q fun m2 r h2 H2 dx y w2 st2 rx o => ?_
        split at o
        · rename_i r1 er
          exact ⟨m2, _, r, dx, r1, w2, st2, rx, er, fun s' st' => o m2 H2 .refl w2 s' st'⟩
        · exact o.elim
  | .asc i a, e, h, hz => by
    cases e <;> first | exact absurd (show false = true from h) Bool.false_ne_true | skip
    rename_i tgs v spos
    cases tgs with
    | nil => exact absurd (show false = true from h) Bool.false_ne_true
    | cons tg tgs =>
      cases tgs with
      | cons => cases tg <;> exact absurd (show false = true from h) Bool.false_ne_true
      | nil =>
        cases tg <;> first | exact absurd (show false = true from h) Bool.false_ne_true | skip
        rename_i y py
        have h' : (N[i]? == some y && sc.kind == .function && sc.names.lookup y == some .local && isComp a && swOk y py v && chk N sc G a v) = true := h
        simp only [Bool.and_eq_true, beq_iff_eq] at h'
        obtain ⟨⟨⟨⟨⟨h1, hk⟩, h2⟩, h3⟩, h4⟩, h5⟩ := h'
        cases a <;> first | (cases h3; done) | skip
        rename_i t k it cs e N' cap
        obtain ⟨elt, tg, iter, ifs, scope, pos, rfl, c⟩ := compChk h5
        have hsw : swapsWith (.ListComp elt [⟨tg, iter, ifs, 0⟩] scope pos) (some (.Name y py)) spos.line X.env = pure true := by
          have hb : X.env.blockKind = .function := by
            unfold Env.blockKind
            rw [xo.s, hk]
            rfl
          have hy : X.env.kindOf y = some .local := by show X.env.scope.names.lookup y = _; rw [xo.s]; exact h2
          have h4' : (py.line == pos.line && !(scope.names.any fun (n, k) => n == y && (k == .local || k == .cell))) = true := h4
          show (pure (X.env.blockKind == .function && X.env.kindOf y == some .local && py.line == pos.line && !(scope.names.any fun (n, k) => n == y && (k == .local || k == .cell))) : Sem Bool) = pure true
          rw [hb, hy]
          rw [Bool.and_assoc, h4']
          rfl
        refine (comp_ps (i := i) xo c.S c.capL c.nN c.fr (fun C s3 H3 fp => ⟨pgT' (blk_xo xo c.nd C s3 H3 fp) (blk_loc (by rw [xo.s]; exact c.S) C s3 H3 fp) c.tg, sB (blk_xo xo c.nd C s3 H3 fp) (blk_go go C s3 H3 fp) cs ifs c.cs, (sET (blk_xo xo c.nd C s3 H3 fp) (blk_go go C s3 H3 fp) e).1 elt c.e⟩) c.ns
          (comp_it (cl := cl) xo c (fun es hc => sA xo go it es hc) fun c' x ec hx => (sET xo go c').1 x hx) h1 h2 hsw).wk fun Z s H q => ?_
        refine TDS.one (fun r h => by rw [xs]) q fun m2 r h2 H2 dx y w2 st2 rx o => ?_
        exact o m2 H2 .refl w2 _ (st2.set i rx)
  | .ex a, e, h, hz => by
    cases e <;> first | exact absurd (show false = true from h) Bool.false_ne_true | skip
    rename_i v pos
    have h' : (noComp v && chk N sc G a v) = true := h
    simp only [Bool.and_eq_true] at h'
    refine (ps_expr ((sET xo go a).1 v h'.2) (noComp_sw h'.1)).wk fun Z s H q => ?_
    refine TDS.one (fun r h => by rw [xs]) q fun m2 r h2 H2 dx y w2 st2 rx o => ?_
    exact o m2 H2 .refl w2 _ st2
  | .ret a, e, h, hz => by
    cases e <;> first | exact absurd (show false = true from h) Bool.false_ne_true | skip
    rename_i v pos
    cases v with
    | none => exact absurd (show false = true from h) Bool.false_ne_true
    | some v =>
      refine (ps_ret ((sET xo go a).1 v h)).wk fun Z s H q => ?_
      refine TDS.one (fun r h => by rw [xs]) q fun m2 r h2 H2 dx y w2 st2 rx o => ?_
      exact o m2 H2 .refl w2 _ rx
  | .iff a b1 b2, e, h, hz => by
    cases e <;> first | exact absurd (show false = true from h) Bool.false_ne_true | skip
    rename_i t x y pos
    have h' : (chk N sc G a t && chkSs N sc G b1 x && chkSs N sc G b2 y) = true := h
    simp only [Bool.and_eq_true] at h'
    have hz' : (rz = true ∨ noRss b1 = true) ∧ (rz = true ∨ noRss b2 = true) := by
      rcases hz with z | z
      · exact ⟨.inl z, .inl z⟩
      · have z' : (noRss b1 && noRss b2) = true := z
        rw [Bool.and_eq_true] at z'
        exact ⟨.inr z'.1, .inr z'.2⟩
    refine (ps_if ((sET xo go a).2 t h'.1.1) (sSs (W := W) xo go hfn xx b1 x h'.1.2 hz'.1) (sSs (W := W) xo go hfn xx b2 y h'.2 hz'.2)).wk fun Z s H ⟨m, r, hh, w, st, o⟩ => ?_
    rw [xs] at o
    obtain ⟨dx, h1, e0, o⟩ := o.nx
    split at o
    · rename_i et
      exact ⟨m, r, hh, dx, h1, true, w, st, e0, et, fun m' H' g w' => iteT ⟨m', r, h1, w', st.mono g, o.mono g⟩⟩
    · rename_i et
      exact ⟨m, r, hh, dx, h1, false, w, st, e0, et, fun m' H' g w' => iteF ⟨m', r, h1, w', st.mono g, o.mono g⟩⟩
    · exact o.elim
  | .forr t (.r1 a) b, e, h, hz => by
    cases e <;> first | exact absurd (show false = true from h) Bool.false_ne_true | skip
    rename_i tg it x els pos
    cases els with
    | cons => exact absurd (show false = true from h) Bool.false_ne_true
    | nil =>
      have h' : (chkT N sc t tg && noSet it && chkI N sc G (.r1 a) it && chkSs N sc G b x) = true := h
      simp only [Bool.and_eq_true] at h'
      obtain ⟨⟨⟨h1, h2⟩, h3⟩, h4⟩ := h'
      have hs : ∀ z, foldedSetIterable it X.env z = pure z := fun z => by cases it <;> first | rfl | (cases h2; done)
      have hi : ∃ p a' pos', it = .Call (.Name "range" p) [a'] [] pos' ∧ glB sc "range" = true ∧ noStar a' = true ∧ chk N sc G a a' = true := by
        cases it <;> first | exact absurd (show false = true from h3) Bool.false_ne_true | skip
        rename_i fe es kw pos'
        cases fe <;> first | exact absurd (show false = true from h3) Bool.false_ne_true | skip
        rename_i nm p
        cases es with
        | nil => exact absurd (show false = true from h3) Bool.false_ne_true
        | cons a' es =>
          cases es with
          | cons => exact absurd (show false = true from h3) Bool.false_ne_true
          | nil =>
            cases kw with
            | cons => exact absurd (show false = true from h3) Bool.false_ne_true
            | nil =>
              have h5 : (nm == ("range" : Str) && glB sc nm && noStar a' && chk N sc G a a') = true := h3
              simp only [Bool.and_eq_true, beq_iff_eq] at h5
              obtain ⟨⟨⟨rfl, h6⟩, h7⟩, h8⟩ := h5
              exact ⟨p, a', pos', rfl, h6, h7, h8⟩
      obtain ⟨p, a', pos', rfl, h6, h7, h8⟩ := hi
      have hA : PA X [a'] (tCons (TDE X.K (ev G cl a)) tNil) := pa_cons ((sET xo go a).1 a' h8) pa_nil (star_one [] h7)
      refine (ps_for xo.po xo.calm (pi_range1 (glB_ok xo h6) xo.rng hA (star_one [] h7)) (pgT xo hfn h1) (sSs (W := W) xo go hfn xx b x h4 hz) hs).wk fun Z s H q => ?_
      refine TDS.one (fun r h => by rw [xs]) q fun m2 r h2 H2 dx y w2 st2 rx o => ?_
      cases rx <;> first | exact o.elim | skip
      rename_i j
      simp only at o
      split at o
      · rename_i ho
        refine ⟨j, rfl, ho.1, ho.2, ?_⟩
        have := for_rngD (lo := 0) (hi := j) w2 st2 o
        simpa using this
      · exact o.elim
  | .forr t (.r2 a a2) b, e, h, hz => by
    cases e <;> first | exact absurd (show false = true from h) Bool.false_ne_true | skip
    rename_i tg it x els pos
    cases els with
    | cons => exact absurd (show false = true from h) Bool.false_ne_true
    | nil =>
      have h' : (chkT N sc t tg && noSet it && chkI N sc G (.r2 a a2) it && chkSs N sc G b x) = true := h
      simp only [Bool.and_eq_true] at h'
      obtain ⟨⟨⟨h1, h2⟩, h3⟩, h4⟩ := h'
      have hs : ∀ z, foldedSetIterable it X.env z = pure z := fun z => by cases it <;> first | rfl | (cases h2; done)
      have hi : ∃ p a' b' pos', it = .Call (.Name "range" p) [a', b'] [] pos' ∧ glB sc "range" = true ∧ noStar a' = true ∧ noStar b' = true ∧ chk N sc G a a' = true ∧ chk N sc G a2 b' = true := by
        cases it <;> first | exact absurd (show false = true from h3) Bool.false_ne_true | skip
        rename_i fe es kw pos'
        cases fe <;> first | exact absurd (show false = true from h3) Bool.false_ne_true | skip
        rename_i nm p
        cases es with
        | nil => exact absurd (show false = true from h3) Bool.false_ne_true
        | cons a' es =>
          cases es with
          | nil => exact absurd (show false = true from h3) Bool.false_ne_true
          | cons b' es =>
            cases es with
            | cons => exact absurd (show false = true from h3) Bool.false_ne_true
            | nil =>
              cases kw with
              | cons => exact absurd (show false = true from h3) Bool.false_ne_true
              | nil =>
                have h5 : (nm == ("range" : Str) && glB sc nm && noStar a' && noStar b' && chk N sc G a a' && chk N sc G a2 b') = true := h3
                simp only [Bool.and_eq_true, beq_iff_eq] at h5
                obtain ⟨⟨⟨⟨⟨rfl, h6⟩, h7⟩, h8⟩, h9⟩, h10⟩ := h5
                exact ⟨p, a', b', pos', rfl, h6, h7, h8, h9, h10⟩
      obtain ⟨p, a', b', pos', rfl, h6, h7, h8, h9, h10⟩ := hi
      have hA : PA X [a', b'] (tCons (TDE X.K (ev G cl a)) (tCons (TDE X.K (ev G cl a2)) tNil)) := pa_cons ((sET xo go a).1 a' h9) (pa_cons ((sET xo go a2).1 b' h10) pa_nil (star_one [] h8)) (star_one [b'] h7)
      refine (ps_for xo.po xo.calm (pi_range2 (glB_ok xo h6) xo.rng hA (by rw [star_one [b'] h7, star_one [] h8]; rfl) (star_one [] h8)) (pgT xo hfn h1) (sSs (W := W) xo go hfn xx b x h4 hz) hs).wk fun Z s H q => ?_
      refine TDS.one (fun r h => by rw [xs]) q fun m2 r h2 H2 dx y w2 st2 rx o => ?_
      obtain ⟨dy, h3, e3, o⟩ := o.nx
      refine ⟨m2, r, h2, dy, h3, w2, st2, e3, fun m3 y' H3 g3 w3 ry => ?_⟩
      have rx' := rx.mono g3
      cases rx' <;> first | exact o.elim | skip
      rename_i i _
      cases ry <;> first | exact o.elim | skip
      rename_i j
      simp only at o
      split at o
      · rename_i ho
        refine ⟨i, j, rfl, ⟨ho.1.1, ho.1.2, ho.2.1, ho.2.2⟩, ?_⟩
        exact for_rngD (lo := i) (hi := j) w3 (st2.mono g3) (o.mono g3)
      · exact o.elim
  | .forr t (.sq a) b, e, h, hz => by
    cases e <;> first | exact absurd (show false = true from h) Bool.false_ne_true | skip
    rename_i tg it x els pos
    cases els with
    | cons => exact absurd (show false = true from h) Bool.false_ne_true
    | nil =>
      have h' : (chkT N sc t tg && noSet it && (noSet it && chk N sc G a it) && chkSs N sc G b x) = true := h
      simp only [Bool.and_eq_true] at h'
      obtain ⟨⟨⟨h1, h2⟩, _, h3⟩, h4⟩ := h'
      have hs : ∀ z, foldedSetIterable it X.env z = pure z := fun z => by cases it <;> first | rfl | (cases h2; done)
      have hp := (sET xo go a).1 it h3
      have p1 := ps_for xo.po xo.calm (pi_list hp) (pgT xo hfn h1) (sSs (W := W) xo go hfn xx b x h4 hz) hs (pos := pos)
      have p2 := ps_for xo.po xo.calm (pi_tup hp) (pgT xo hfn h1) (sSs (W := W) xo go hfn xx b x h4 hz) hs (pos := pos)
      intro pins s σ H Z I ⟨m, r, hh, w, st, o⟩
      rw [xs] at o
      obtain ⟨dx, h5, e0, o⟩ := o.nx
      have mk : ∀ (R : VK), (∀ (m2 : List Addr) (H2 : Hp) (y : V), Gr X.K m H m2 H2 → Wd X.K m2 h5 H2 → RD X.K m2 H2 dx y → R y H2) → TDE X.K (ev G cl a) σ H R := fun R k => ⟨m, r, hh, dx, h5, w, st, e0, fun m2 y H2 g2 w2 ry => k m2 H2 y g2 w2 ry⟩
      cases dx <;> first | exact o.elim | skip
      · refine p2 pins s σ H Z I (mk _ fun m2 H2 y g2 w2 ry => ?_)
        cases ry with
        | tup hq q' => exact ⟨_, rfl, ⟨_, hq⟩, for_tupD w2 (st.mono g2) hq q' (OutS.mono g2 o)⟩
      · rename_i n
        refine p1 pins s σ H Z I (mk _ fun m2 H2 y g2 w2 ry => ?_)
        cases ry with
        | ref ha =>
          have hl : ∃ l, lstAt h5 n = some l := by
            cases W with
            | zero => exact o.elim
            | succ k =>
              simp only [forD, forI] at o
              split at o
              · exact o.elim
              · rename_i l el
                exact ⟨l, el⟩
          obtain ⟨l, hl⟩ := hl
          obtain ⟨a', vs, ha', hq, _⟩ := w2.lst hl
          rw [ha] at ha'; cases ha'
          exact ⟨_, rfl, ⟨_, hq⟩, for_lstD (W := W) w2 (st.mono g2) ha (OutS.mono g2 o)⟩
  | .whl a b, e, h, hz => by
    cases e <;> first | exact absurd (show false = true from h) Bool.false_ne_true | skip
    rename_i t x els pos
    cases els with
    | cons => exact absurd (show false = true from h) Bool.false_ne_true
    | nil =>
      have h' : (chk N sc G a t && chkSs N sc G b x) = true := h
      simp only [Bool.and_eq_true] at h'
      refine (ps_while xo.po ((sET xo go a).2 t h'.1) (sSs (W := W) xo go hfn xx b x h'.2 hz)).wk fun Z s H ⟨m, r, hh, w, st, o⟩ => ?_
      rw [xs] at o
      exact whileD w st o
  | .pass, e, h, hz => by
    cases e <;> first | exact absurd (show false = true from h) Bool.false_ne_true | skip
    refine (ps_pass).wk fun Z s H ⟨m, r, hh, w, st, o⟩ => ?_
    rw [xs] at o
    exact o m H .refl w s st
  | .brk, e, h, hz => by
    cases e <;> first | exact absurd (show false = true from h) Bool.false_ne_true | skip
    refine (ps_break).wk fun Z s H ⟨m, r, hh, w, st, o⟩ => ?_
    rw [xs] at o
    exact o m H .refl w s st
  | .cont, e, h, hz => by
    cases e <;> first | exact absurd (show false = true from h) Bool.false_ne_true | skip
    refine (ps_continue).wk fun Z s H ⟨m, r, hh, w, st, o⟩ => ?_
    rw [xs] at o
    exact o m H .refl w s st
  | .stx o i a, e, h, hz => by
    cases e <;> first | exact absurd (show false = true from h) Bool.false_ne_true | skip
    rename_i tgs v pos
    cases tgs with
    | nil => exact absurd (show false = true from h) Bool.false_ne_true
    | cons tg tgs =>
      cases tgs with
      | cons => cases tg <;> exact absurd (show false = true from h) Bool.false_ne_true
      | nil =>
        cases tg <;> first | exact absurd (show false = true from h) Bool.false_ne_true | skip
        rename_i x y px
        have h' : (noComp v && noSlice y && chk N sc G a v && chk N sc G o x && chk N sc G i y) = true := h
        simp only [Bool.and_eq_true] at h'
        obtain ⟨⟨⟨⟨h1, h2⟩, h3⟩, h4⟩, h5⟩ := h'
        refine (ps_asg ((sET xo go a).1 v h3) (pg_sub ((sET xo go o).1 x h4) ((sET xo go i).1 y h5) setD (fun _ => by cases y <;> first | rfl | (cases h2; done))) (noComp_sole h1) rfl rfl).wk fun Z s H q => ?_
        refine TDS.one (fun r h => by rw [xs]) q fun m2 r h2 H2 dz z w2 st2 rdz o => ?_
        obtain ⟨dx, h6, e6, o⟩ := o.nx
        obtain ⟨dy, h7, e7, o⟩ := o.nx
        obtain ⟨_, h8, e8, o⟩ := o.nx
        exact ⟨m2, r, h2, dx, h6, w2, st2, e6, fun m3 x' H3 g3 w3 rx => ⟨m3, r, h6, dy, h7, w3, st2.mono g3, e7, fun m4 y' H4 g4 w4 ry => ⟨m4, h7, dx, dy, dz, h8, w4, rx.mono g4, ry, rdz.mono (g3.trans g4), e8, fun m5 H5 g5 w5 => o m5 H5 ((g3.trans g4).trans g5) w5 s (st2.mono ((g3.trans g4).trans g5))⟩⟩⟩
  | .never, e, h, hz => (ps_never).wk fun Z s H ⟨m, r, hh, w, st, o⟩ => by
    rw [xs] at o
    exact o.elim
theorem sSs {X : Cx} {N : List Str} {sc : Scope} {G : Gs} {ca : Nat → Addr} {cl : Cl} {W : Nat} {Wx : Ws} {rz : Bool} (xo : XOk X N sc) (go : GOk X G ca cl) (hfn : ∀ x, X.fn x = true) (xx : XX X ca Wx rz) : ∀ (c : Ss) (e : List PySem.Stmt), chkSs N sc G c e = true → (rz = true ∨ noRss c = true) → PSs X e (TDS X.K Wx (xss G cl W c))
  | .nil, [], _, _ => (pss_nil).wk fun Z s H ⟨m, r, hh, w, st, o⟩ => by
    rw [xss] at o
    exact o m H .refl w s st
  | .cons a l, x :: xs', h, hz => by
    have h' : (chkS N sc G a x && chkSs N sc G l xs') = true := h
    simp only [Bool.and_eq_true] at h'
    have hz' : (rz = true ∨ noRs a = true) ∧ (rz = true ∨ noRss l = true) := by
      rcases hz with z | z
      · exact ⟨.inl z, .inl z⟩
      · have z' : (noRs a && noRss l) = true := z
        rw [Bool.and_eq_true] at z'
        exact ⟨.inr z'.1, .inr z'.2⟩
    refine (pss_cons (sS (W := W) xo go hfn xx a x h'.1 hz'.1) (sSs (W := W) xo go hfn xx l xs' h'.2 hz'.2)).wk fun Z s H ⟨m, r, hh, w, st, o⟩ => ?_
    rw [xss] at o
    refine ⟨m, r, hh, w, st, ?_⟩
    cases ho : xs G cl W a r hh with
    | bad => rw [ho] at o; exact o
    | exc c rr h1 => rw [ho] at o; exact o
    | ok f h1 =>
      rw [ho] at o
      intro m1 H1 g1 w1
      have o' := OutS.mono g1 o
      cases f with
      | nx r2 => exact fun s' st' => ⟨m1, r2, h1, w1, st', o'⟩
      | rt d => exact o' m1 H1 .refl w1
      | bk r2 => exact o' m1 H1 .refl w1
      | ct r2 => exact o' m1 H1 .refl w1
  | .nil, _ :: _, h, _ => absurd (show false = true from h) Bool.false_ne_true
  | .cons _ _, [], h, _ => absurd (show false = true from h) Bool.false_ne_true
end
end Ng
end
section
set_option Elab.async false
set_option linter.all false
set_option maxRecDepth 100000
set_option maxHeartbeats 4000000
set_option autoImplicit false
namespace Ng
open PySem PySem.Spec PyProof.Rows L2
structure Fc where
  np : Nat
  ns : Nat
  body : Ss
def endD : Fl → Hh → Rs D
  | .rt d, h => .ok d h
  | .nx _, h => .ok .non h
  | _, _ => .bad
def callD (G : Gs) (T : Nat → Option Fc) (W : Nat) : Nat → Cl
  | 0, _, _, _ => .bad
  | n + 1, f, ds, h => match T f with
    | none => .bad
    | some c => if ds.length = c.np then (xss G (callD G T W n) W c.body (ds.map some ++ List.replicate (c.ns - c.np) none) h).bind endD else .bad
structure FcOk (K : PySem.W.Frag) (mg : Str → Option Value) (G : Gs) (x : Str) (c : Fc) : Prop where
  ex : ∃ st fa fd N ps qual, Fun K x qual st fa fd ∧ FnScope N ps (defScope st) ∧ ps.length = c.np ∧ N.length = c.ns ∧ Binds K fd ps [] ∧ mg x = some (.ref fa) ∧ chkSs N (defScope st) G c.body (defBody st) = true
structure PrOk (K : PySem.W.Frag) (mg : Str → Option Value) (G : Gs) (ca : Nat → Addr) (T : Nat → Option Fc) : Prop where
  fn : ∀ (f : Nat) (x : Str), G.fns[f]? = some x → ∃ c, T f = some c ∧ FcOk K mg G x c
  cst : ∀ (g : Nat) (x : Str) (d : D), G.csts[g]? = some (x, d) → ∃ v u, mg x = some u ∧ RelV v u ∧ ∀ m H, RD K m H d v
  blt : ∀ f : Blt, mg f.nm = none
  ty : ∀ t : Ty, mg (Str.ofString t.nm) = none
  rng : mg "range" = none
  exc : ∀ (c : Nat) (x : Str), G.excs[c]? = some x → mg x = some (.ref (ca c)) ∧ ExcF K (ca c)
  sub : ∀ p ∈ G.sub, PySem.W.exmOne K (.ref (ca p.1)) (.ref (ca p.2)) = some true ∧ PySem.W.kitOne K (.ref (ca p.1)) (.ref (ca p.2)) = some true ∧ ExcF K (ca p.1)
  verr : mg "ValueError" = none
theorem RSt.start {K : PySem.W.Frag} {m : List Addr} {H : Hp} {ds : List D} {vs : List V} (r : RDs K m H ds vs) (k : Nat) : RSt K m H (ds.map some ++ List.replicate k none) (vs.map some ++ List.replicate k none) := by
  refine ⟨by simp [r.length], fun i d e => ?_⟩
  by_cases hi : i < ds.length
  · rw [List.getElem?_append_left (by simpa using hi), List.getElem?_map] at e
    cases z : ds[i]? with
    | none => rw [z] at e; cases e
    | some d' =>
      rw [z] at e
      have e' : d' = d := by
        have e2 : some (some d') = some (some d) := e
        injection e2 with e2; injection e2
      subst e'
      obtain ⟨v, hv, rv⟩ := r.get z
      exact ⟨v, by rw [List.getElem?_append_left (by rw [List.length_map, ← r.length]; exact hi), List.getElem?_map, hv]; rfl, rv⟩
  · rw [List.getElem?_append_right (by simpa using hi), List.getElem?_replicate] at e
    split at e <;> cases e
section
variable {P : Program} {w : World} {K : PySem.W.Frag} {mg : Str → Option Value} {base : Heap} {G : Gs} {ca : Nat → Addr} {T : Nat → Option Fc} {W : Nat}
theorem _root_.L2.Fun.okX {x qual : Str} {st : PySem.Stmt} {f : Addr} {fd : FuncData} {N ps : List Str} {k : Nat} {sp : Sp} (F : Fun K x qual st f fd) (S : FnScope N ps (defScope st)) (len : ∀ vs H Q E, sp vs H Q E → vs.length = ps.length)
    (hbody : ∀ (cdv : Value) (A : Around) (outer : List Env) (s : Shared) (H : Hp) (vs : List V) (Q : VK) (E : XK), Room k (A.deeper (envOfC qual (defScope st) s.heap.objs.size f cdv)) → sp vs H Q E →
      ∃ t, PSs (cxOf (CX1 P w) P w K mg base N qual (defScope st) f cdv A outer s H E) (defBody st) t ∧ t { nx := fun _ H' => Q .non H', rt := Q } (start N vs) H) : FnOk P w K mg base (CX1 P w) (k + 1) f fd ps sp := by
  obtain ⟨oc, od, kV, doc, pm, an, cdv, ct, osl, rfl, lk, hcd⟩ := F.ex
  exact fn_of lk hcd S len fun A outer s H vs Q E hr hsp => hbody cdv A outer s H vs Q E hr hsp
abbrev AllFn (P : Program) (w : World) (K : PySem.W.Frag) (mg : Str → Option Value) (base : Heap) (G : Gs) (ca : Nat → Addr) (T : Nat → Option Fc) (W n : Nat) : Prop := ∀ (f : Nat) (x : Str), G.fns[f]? = some x → ∃ fa fd ps, FnOk P w K mg base (CX1 P w) n fa fd ps (spD K ca (callD G T W n f) ps.length) ∧ mg x = some (.ref fa) ∧ PySem.W.keepIn K (.ref fa) = true ∧ Binds K fd ps [] ∧ ∀ ds h, callD G T W n f ds h ≠ .bad → ds.length = ps.length
theorem fn_step (pr : PrOk K mg G ca T) {n f : Nat} (ih : AllFn P w K mg base G ca T W n) {x qual : Str} {c : Fc} {st : PySem.Stmt} {fa : Addr} {fd : FuncData} {N ps : List Str} (hc : T f = some c) (F : Fun K x qual st fa fd) (S : FnScope N ps (defScope st)) (h1 : ps.length = c.np) (h2 : N.length = c.ns)
    (hk : chkSs N (defScope st) G c.body (defBody st) = true) : FnOk P w K mg base (CX1 P w) (n + 1) fa fd ps (spD K ca (callD G T W (n + 1) f) ps.length) := by
  refine F.okX S (fun vs H Q E h => h.1) (fun cdv A outer s H vs Q E hr h => ?_)
  obtain ⟨hl, m, h, ds, wd, rd, o⟩ := h
  simp only [callD, hc] at o
  have hlen : ds.length = c.np := by rw [rd.length, hl, h1]
  rw [if_pos hlen] at o
  let X : Cx := cxOf (CX1 P w) P w K mg base N qual (defScope st) fa cdv A outer s H E
  have xo : XOk X N (defScope st) := ⟨rfl, rfl, rfl, S.nd, ⟨n, hr⟩, pr.rng, PassesOwn.leaving⟩
  have go : GOk X G ca (callD G T W n) := ⟨fun f' x' hf' => by
    obtain ⟨fa', fd', ps', F', hm', hk', hb', hl'⟩ := ih f' x' hf'
    exact ⟨fa', fd', ps', n, F', hr, hm', hk', hb', hl'⟩, pr.cst, pr.blt, pr.ty, pr.exc, pr.sub, pr.verr⟩
  refine ⟨_, sSs (W := W) xo go (fun _ => rfl) fnXX c.body (defBody st) hk (.inl rfl), m, ds.map some ++ List.replicate (c.ns - c.np) none, h, wd, ?_, ?_⟩
  · show RSt K m H _ (vs.map some ++ List.replicate (N.length - vs.length) none)
    rw [show N.length - vs.length = c.ns - c.np by omega]
    exact RSt.start rd _
  · cases hx : xss G (callD G T W n) W c.body (ds.map some ++ List.replicate (c.ns - c.np) none) h with
    | bad => rw [hx] at o; exact o
    | exc c' r' h' =>
      rw [hx] at o
      exact fun m' H' s' g w' _ v => o m' H' v g w'
    | ok fl h' =>
      rw [hx] at o
      intro m' H' g w'
      cases fl with
      | rt d' => exact fun v rv => o m' v H' g w' rv
      | nx r' => exact fun s' _ => o m' .non H' g w' .non
      | bk r' => exact o.elim
      | ct r' => exact o.elim
theorem fn_all (pr : PrOk K mg G ca T) : ∀ n : Nat, AllFn P w K mg base G ca T W n := by
  intro n
  induction n with
  | zero =>
    intro f x hf
    obtain ⟨c, hc, st, fa, fd, N, ps, qual, F, S, h1, h2, hb, hm, hk⟩ := pr.fn f x hf
    refine ⟨fa, fd, ps, ⟨fun vs H Q E h => h.1, fun A outer s H args us vs Q E _ _ _ _ h => ?_⟩, hm, F.kp, hb, fun ds h e => absurd rfl e⟩
    obtain ⟨_, m, h, ds, _, _, o⟩ := h
    exact o.elim
  | succ n ih =>
    intro f x hf
    obtain ⟨c, hc, st, fa, fd, N, ps, qual, F, S, h1, h2, hb, hm, hk⟩ := pr.fn f x hf
    refine ⟨fa, fd, ps, fn_step pr ih hc F S h1 h2 hk, hm, F.kp, hb, fun ds h e => ?_⟩
    simp only [callD, hc] at e
    by_cases hn : ds.length = c.np
    · rw [hn, h1]
    · rw [if_neg hn] at e
      exact absurd rfl e
end
theorem sqR_of {K : PySem.W.Frag} {H : Hp} {a : Addr} {xs : List V} (hO : Only H) (h : SqL K H a xs) : SqR K H a xs := by
  rcases h with (h | h) | h
  · rcases hO a with z | ⟨o, ys, z⟩
    · rw [z] at h; cases h
    · rw [z] at h; cases h
  · exact .inl h
  · exact .inr h
def spO (K : PySem.W.Frag) (f : List D → Hh → Rs D) (n : Nat) : Sp := fun vs H Q _ => vs.length = n ∧ ∃ m h ds d h', Wd K m h H ∧ RDs K m H ds vs ∧ f ds h = .ok d h' ∧ ∀ m' v H', Gr K m H m' H' → Wd K m' h' H' → RD K m' H' d v → Q v H'
theorem spO_D {K : PySem.W.Frag} {ca : Nat → Addr} {f : List D → Hh → Rs D} {n : Nat} {vs : List V} {H : Hp} {Q : VK} {E : XK} (h : spO K f n vs H Q E) : spD K ca f n vs H Q E := by
  obtain ⟨hl, m, h, ds, d, h', w, r, e, c⟩ := h
  exact ⟨hl, m, h, ds, w, r, by rw [e]; exact c⟩
/-- THE LAW: its run over plain data gives True at every script of at most n ints -/
theorem law_of {G : Gs} {T : Nat → Option Fc} {W : Nat} {l : PySem.W.OpenLaw} {n k lw : Nat} {q : Program} {loose : List Str} {XP : (Str → Option Value) → Heap → Prop} {YP : World → Heap → Prop} {d : DefRec} {K : Params → PySem.W.Frag} {x : Str}
    (run : ∀ ns : List Int, ns.length ≤ n → ∃ h', callD G T W (k + 1) lw [.ref 0] [.ro (ns.map D.int)] = .ok (.bl true) h')
    (hn : l.most = some n) (hn2 : n ≤ sizeLine) (hdf : d.params.defaults = []) (hr : Room (k + 1) callerA)
    (hY : ∀ (w : World) (h : Heap), YP w h → (K w.params).In h)
    (F : ∀ (w : World) (mg : Str → Option Value) (fa : Addr) (h : Heap), (K w.params).In h → h.Ns mainGlobals mg → mg d.name = some (.ref fa) →
      ∃ ca : Nat → Addr, PrOk (K w.params) mg G ca T ∧ ∃ fd : FuncData, (∀ (s : Shared) (u : Value), BindsTo s fd ⟨[u], []⟩ [(x, u)]) ∧ ∃ c st N qual, T lw = some c ∧ Fun (K w.params) d.name qual st fa fd ∧ FnScope N [x] (defScope st) ∧ 1 = c.np ∧ N.length = c.ns ∧ chkSs N (defScope st) G c.body (defBody st) = true) :
    PySem.W.WalkO q loose XP YP l.row.toRowW d [] (fun f vs => PySem.call f vs) := by
  refine L2.walk_of (n := n) (k := k + 1) (x := x) (CX := fun w => CX1 l.prog w) (sp := fun w => spO (K w.params) (callD G T W (k + 1) lw) 1) hn hn2 hdf hr hY (fun w mg fa h KX hns hm => ?_) (fun w H a ns hl hO hS => ?_) fun _ _ _ _ _ ⟨_, _, _, _, _, _, _, _, _, z⟩ => z
  · obtain ⟨ca, pr, fd, hb, c, st, N, qual, hc, Fu, S, h1, h2, hk⟩ := F w mg fa h KX hns hm
    exact ⟨fd, hb, fun base _ _ => (fn_step pr (fn_all pr k) hc Fu S h1 h2 hk).imp fun _ _ _ _ => spO_D⟩
  · obtain ⟨h', e⟩ := run ns hl
    refine ⟨rfl, [a], [.ro (ns.map D.int)], [.ref 0], .bl true, h', ⟨rfl, fun i j b o u e1 e2 e3 e4 w1 w2 => ?_, fun i o b e1 e2 => ?_⟩, .cons (.ref rfl) .nil, e, ?_⟩
    · cases i with
      | zero =>
        cases j with
        | zero => rfl
        | succ j => simp at e4
      | succ i => simp at e3
    · cases i with
      | zero =>
        simp at e1 e2
        subst e1; subst e2
        exact ⟨_, sqR_of hO hS, RDs.ints ns⟩
      | succ i => simp at e1
    · intro m' v H' _ _ rd
      cases rd; rfl
end Ng
end
section
set_option Elab.async false
set_option linter.all false
set_option maxRecDepth 100000
set_option maxHeartbeats 4000000
set_option autoImplicit false
namespace Ng
open PySem L2
section
variable {A B : Type} (G : Gs) (cl : Cl) (W : Nat) (r : Ev) (h : Hh)
theorem beq_eq_decide' {α : Type} [BEq α] [LawfulBEq α] [DecidableEq α] (i j : α) : (i == j) = decide (i = j) := by
  by_cases e : i = j
  · subst e; simp
  · rw [decide_eq_false e]; exact beq_eq_false_iff_ne.mpr e
@[simp] theorem bindOk (a : A) (f : A → Hh → Rs B) : (Rs.ok a h).bind f = f a h := rfl
@[simp] theorem nxOk (a : A) : (Rs.ok a h).nx = .ok a h := rfl
@[simp] theorem nxBad : (Rs.bad : Rs A).nx = .bad := rfl
@[simp] theorem nxExc (c : Nat) (r' : Ev) : (Rs.exc c r' h : Rs A).nx = .bad := rfl
@[simp] theorem innOk (a : A) : (Rs.ok a h).inn r = .ok a h := rfl
@[simp] theorem innExc (c : Nat) (r' : Ev) : (Rs.exc c r' h : Rs A).inn r = .exc c r h := rfl
@[simp] theorem bindExc (c : Nat) (r' : Ev) (f : A → Hh → Rs B) : (Rs.exc c r' h : Rs A).bind f = .exc c r' h := rfl
@[simp] theorem bindBad (f : A → Hh → Rs B) : (Rs.bad : Rs A).bind f = .bad := rfl
@[simp] theorem evVar (i : Nat) : ev G cl (.var i) r h = (match r[i]? with | some (some d) => .ok d h | _ => .bad) := by rw [ev] <;> rfl
@[simp] theorem ge0 (a : Option D) (l : Ev) : (a :: l)[0]? = some a := rfl
@[simp] theorem gd0 (a : D) (l : List D) : (a :: l)[0]? = some a := rfl
@[simp] theorem evInt (i : Int) : ev G cl (.int i) r h = .ok (.int i) h := by rw [ev] <;> rfl
@[simp] theorem evBl (i : Bool) : ev G cl (.bl i) r h = .ok (.bl i) h := by rw [ev] <;> rfl
@[simp] theorem evNon : ev G cl .non r h = .ok .non h := by rw [ev] <;> rfl
@[simp] theorem evStr (i : Str) : ev G cl (.str i) r h = .ok (.str i) h := by rw [ev] <;> rfl
@[simp] theorem evGc (i : Nat) : ev G cl (.gc i) r h = (match G.csts[i]? with | some p => .ok p.2 h | none => .bad) := by rw [ev] <;> (cases G.csts[i]? <;> rfl)
@[simp] theorem evTy (t : Ty) : ev G cl (.ty t) r h = .ok (.ty t.nm) h := by rw [ev] <;> rfl
@[simp] theorem evBin (op : Bop) (a b : E) : ev G cl (.bin op a b) r h = (ev G cl a r h).bind fun x h => (ev G cl b r h).bind fun y h => binD op x y h := by rw [ev] <;> rfl
@[simp] theorem evNeg (a : E) : ev G cl (.neg a) r h = (ev G cl a r h).bind fun x h => match x with | .int i => .ok (.int (-i)) h | _ => .bad := by rw [ev] <;> rfl
@[simp] theorem evCmp (op : Cop) (a b : E) : ev G cl (.cmp op a b) r h = (ev G cl a r h).bind fun x h => (ev G cl b r h).bind fun y h => cmpD op x y h := by rw [ev] <;> rfl
@[simp] theorem evAnd (a b : E) : ev G cl (.and a b) r h = (ev G cl a r h).bind fun x h => match truD x h with | some true => ev G cl b r h | some false => .ok x h | none => .bad := by rw [ev] <;> rfl
@[simp] theorem evOr (a b : E) : ev G cl (.or a b) r h = (ev G cl a r h).bind fun x h => match truD x h with | some true => .ok x h | some false => ev G cl b r h | none => .bad := by rw [ev] <;> rfl
@[simp] theorem evNot (a : E) : ev G cl (.not a) r h = (ev G cl a r h).bind fun x h => match truD x h with | some b => .ok (.bl (!b)) h | none => .bad := by rw [ev] <;> rfl
@[simp] theorem evIte (c a b : E) : ev G cl (.ite c a b) r h = (ev G cl c r h).bind fun x h => match truD x h with | some true => ev G cl a r h | some false => ev G cl b r h | none => .bad := by rw [ev] <;> rfl
@[simp] theorem evIx (a b : E) : ev G cl (.ix a b) r h = (ev G cl a r h).bind fun x h => (ev G cl b r h).bind fun y h => ixD x y h := by rw [ev] <;> rfl
@[simp] theorem evTup (l : Es) : ev G cl (.tup l) r h = (evs G cl l r h).bind fun ds h => if ds.length ≤ 1000 then .ok (.tup ds) h else .bad := by rw [ev] <;> rfl
@[simp] theorem evLst (l : Es) : ev G cl (.lst l) r h = (evs G cl l r h).bind fun ds h => if ds.length ≤ 1000 then .ok (.ref h.length) (h ++ [.lst ds]) else .bad := by rw [ev] <;> rfl
@[simp] theorem evCall (f : Nat) (l : Es) : ev G cl (.call f l) r h = (evs G cl l r h).bind fun ds h => (cl f ds h).nx := by rw [ev] <;> rfl
@[simp] theorem evBlt (f : Blt) (l : Es) : ev G cl (.blt f l) r h = (evs G cl l r h).bind fun ds h => bltD f ds h := by rw [ev] <;> rfl
@[simp] theorem evApp (o e : E) : ev G cl (.app o e) r h = (ev G cl o r h).bind fun x h => if isLst x h = true then (ev G cl e r h).bind fun y h => appD x y h else .bad := by rw [ev] <;> rfl
@[simp] theorem evtNil : evt G cl .nil r h = .ok true h := by rw [evt] <;> rfl
@[simp] theorem evtCons (e : E) (l : Es) : evt G cl (.cons e l) r h = (ev G cl e r h).bind fun x h => match truD x h with | some true => evt G cl l r h | some false => .ok false h | none => .bad := by rw [evt] <;> rfl
theorem evComp (t : Tg) (k : Ck) (it cs : Es) (e : E) (N : List Str) (cap : List Nat) : ev G cl (.comp t k it cs e N cap) r h = (evs G cl it r h).bind fun xs h => (compL t (evt G cl cs) (ev G cl e) h.length k xs h (blockE N cap r) (h ++ [.lst []])).bind fun _ h' => .ok (.ref h.length) h' := by rw [ev] <;> rfl
@[simp] theorem evsNil : evs G cl .nil r h = .ok [] h := by rw [evs] <;> rfl
@[simp] theorem evsCons (e : E) (l : Es) : evs G cl (.cons e l) r h = (ev G cl e r h).bind fun d h => (evs G cl l r h).bind fun ds h => .ok (d :: ds) h := by rw [evs] <;> rfl
@[simp] theorem xsAsg (t : Tg) (e : E) : xs G cl W (.asg t e) r h = (ev G cl e r h).nx.bind fun x h => match setT t x r with | some r1 => .ok (.nx r1) h | none => .bad := by rw [xs] <;> rfl
@[simp] theorem xsAsc (i : Nat) (e : E) : xs G cl W (.asc i e) r h = (ev G cl e r h).nx.bind fun x h => .ok (.nx (r.set i (some x))) h := by rw [xs] <;> rfl
@[simp] theorem xsEx (e : E) : xs G cl W (.ex e) r h = (ev G cl e r h).nx.bind fun _ h => .ok (.nx r) h := by rw [xs] <;> rfl
@[simp] theorem xsRet (e : E) : xs G cl W (.ret e) r h = (ev G cl e r h).nx.bind fun x h => .ok (.rt x) h := by rw [xs] <;> rfl
@[simp] theorem xsIff (c : E) (a b : Ss) : xs G cl W (.iff c a b) r h = (ev G cl c r h).nx.bind fun x h => match truD x h with | some true => xss G cl W a r h | some false => xss G cl W b r h | none => .bad := by rw [xs] <;> rfl
@[simp] theorem xsFor1 (t : Tg) (e : E) (b : Ss) : xs G cl W (.forr t (.r1 e) b) r h = (ev G cl e r h).nx.bind fun x h => match x with | .int j => if okR j then forS t (xss G cl W b) (rngD 0 j) r h else .bad | _ => .bad := by rw [xs] <;> rfl
@[simp] theorem xsFor2 (t : Tg) (e e' : E) (b : Ss) : xs G cl W (.forr t (.r2 e e') b) r h = (ev G cl e r h).nx.bind fun x h => (ev G cl e' r h).nx.bind fun y h => match x, y with | .int i, .int j => if okR i ∧ okR j then forS t (xss G cl W b) (rngD i j) r h else .bad | _, _ => .bad := by rw [xs] <;> rfl
@[simp] theorem xsForS (t : Tg) (e : E) (b : Ss) : xs G cl W (.forr t (.sq e) b) r h = (ev G cl e r h).nx.bind fun x h => forD W t (xss G cl W b) x r h := by rw [xs] <;> rfl
@[simp] theorem xsWhl (c : E) (b : Ss) : xs G cl W (.whl c b) r h = whileF (ev G cl c) (xss G cl W b) W r h := by rw [xs] <;> rfl
@[simp] theorem xsRais (c : Nat) (x : Str) : xs G cl W (.rais c x) r h = .exc c r h := by rw [xs] <;> rfl
@[simp] theorem xsAsgX (t : Tg) (f : Nat) (l : Es) : xs G cl W (.asgX t f l) r h = (evs G cl l r h).nx.bind fun ds h => ((cl f ds h).inn r).bind fun x h => match setT t x r with | some r1 => .ok (.nx r1) h | none => .bad := by rw [xs] <;> rfl
@[simp] theorem xsRetX (f : Nat) (l : Es) : xs G cl W (.retX f l) r h = (evs G cl l r h).nx.bind fun ds h => ((cl f ds h).inn r).bind fun x h => .ok (.rt x) h := by rw [xs] <;> rfl
@[simp] theorem xsExX (f : Nat) (l : Es) : xs G cl W (.exX f l) r h = (evs G cl l r h).nx.bind fun ds h => ((cl f ds h).inn r).bind fun _ h => .ok (.nx r) h := by rw [xs] <;> rfl
@[simp] theorem xsTry (b : Ss) (g : Nat) (j : Option Nat) (hs : List HS) : xs G cl W (.tryx b g j hs) r h = catchD G.sub g j hs (xss G cl W b r h) := by rw [xs] <;> rfl
@[simp] theorem evMxd (mx : Bool) (a b : E) : ev G cl (.mxd mx a b) r h = (ev G cl a r h).bind fun x h => (ev G cl b r h).bind fun y h => bestD mx x y h := by rw [ev] <;> rfl
@[simp] theorem evIns (o i e : E) : ev G cl (.ins o i e) r h = (ev G cl o r h).bind fun x h => if isLst x h = true then (ev G cl i r h).bind fun y h => (ev G cl e r h).bind fun z h => insD x y z h else .bad := by rw [ev] <;> rfl
@[simp] theorem evLrg (a : E) : ev G cl (.lrg a) r h = (ev G cl a r h).bind fun x h => lrgD x h := by rw [ev] <;> rfl
@[simp] theorem evDisp (ks : List Str) (vs : Es) : ev G cl (.disp ks vs) r h = (evs G cl vs r (h ++ [.dct []])).bind fun ds h' => dispD ks ds h.length h' := by rw [ev] <;> rfl
@[simp] theorem xsPass : xs G cl W .pass r h = .ok (.nx r) h := by rw [xs] <;> rfl
@[simp] theorem xsBrk : xs G cl W .brk r h = .ok (.bk r) h := by rw [xs] <;> rfl
@[simp] theorem xsCont : xs G cl W .cont r h = .ok (.ct r) h := by rw [xs] <;> rfl
@[simp] theorem xsStx (o i e : E) : xs G cl W (.stx o i e) r h = (ev G cl e r h).nx.bind fun z h => (ev G cl o r h).nx.bind fun x h => (ev G cl i r h).nx.bind fun y h => (stxD x y z h).nx.bind fun _ h => .ok (.nx r) h := by rw [xs] <;> rfl
@[simp] theorem xssNil : xss G cl W .nil r h = .ok (.nx r) h := by rw [xss] <;> rfl
@[simp] theorem xssCons (s : S) (l : Ss) : xss G cl W (.cons s l) r h = (xs G cl W s r h).bind fun fl h => match fl with | .nx r2 => xss G cl W l r2 h | f => .ok f h := by rw [xss] <;> rfl
theorem xssNx {s : S} {l : Ss} {r r' : Ev} {h h' : Hh} {G : Gs} {cl : Cl} {W : Nat} (e : xs G cl W s r h = .ok (.nx r') h') : xss G cl W (.cons s l) r h = xss G cl W l r' h' := by rw [xssCons, e]; rfl
theorem xssRt {s : S} {l : Ss} {r : Ev} {d : D} {h h' : Hh} {G : Gs} {cl : Cl} {W : Nat} (e : xs G cl W s r h = .ok (.rt d) h') : xss G cl W (.cons s l) r h = .ok (.rt d) h' := by rw [xssCons, e]; rfl
@[simp] theorem setNm (i : Nat) (d : D) : setT (.nm i) d r = some (r.set i (some d)) := rfl
@[simp] theorem setTp (l : List Nat) (ds : List D) : setT (.tp l) (.tup ds) r = if ds.length = l.length then some (setAll l ds r) else none := rfl
@[simp] theorem setAll0 : setAll [] [] r = r := rfl
@[simp] theorem setAll1 (i : Nat) (is : List Nat) (d : D) (ds : List D) : setAll (i :: is) (d :: ds) r = setAll is ds (r.set i (some d)) := rfl
@[simp] theorem bAdd (i j : Int) : binD .add (.int i) (.int j) h = .ok (.int (i + j)) h := rfl
@[simp] theorem bSub (i j : Int) : binD .sub (.int i) (.int j) h = .ok (.int (i - j)) h := rfl
theorem bMulL {i j : Int} (a : -18446744073709551616 < i) (b : i < 18446744073709551616) : binD .mul (.int i) (.int j) h = .ok (.int (i * j)) h := by
  show (if _ then _ else _) = _
  rw [if_pos (.inl ⟨a, b⟩)]
theorem bMulR {i j : Int} (a : -18446744073709551616 < j) (b : j < 18446744073709551616) : binD .mul (.int i) (.int j) h = .ok (.int (i * j)) h := by
  show (if _ then _ else _) = _
  rw [if_pos (.inr ⟨a, b⟩)]
theorem bDiv {i j : Int} (a : 0 < j) (b : j < 1073741824) : binD .fdiv (.int i) (.int j) h = .ok (.int (i / j)) h := by
  show (if _ then _ else _) = _
  rw [if_pos ⟨a, b⟩]
theorem bMod {i j : Int} (a : 0 < j) : binD .mod (.int i) (.int j) h = .ok (.int (i % j)) h := by
  show (if _ then _ else _) = _
  rw [if_pos a]
@[simp] theorem bPow18 : binD .pow (.int 10) (.int 18) h = .ok (.int 1000000000000000000) h := rfl
@[simp] theorem bPow27 : binD .pow (.int 10) (.int 27) h = .ok (.int 1000000000000000000000000000) h := rfl
@[simp] theorem cLt (i j : Int) : cmpD .lt (.int i) (.int j) h = .ok (.bl (decide (i < j))) h := rfl
@[simp] theorem cLe (i j : Int) : cmpD .le (.int i) (.int j) h = .ok (.bl (decide (i ≤ j))) h := rfl
@[simp] theorem cGt (i j : Int) : cmpD .gt (.int i) (.int j) h = .ok (.bl (decide (j < i))) h := rfl
@[simp] theorem cGe (i j : Int) : cmpD .ge (.int i) (.int j) h = .ok (.bl (decide (j ≤ i))) h := rfl
@[simp] theorem cEqI (i j : Int) : cmpD .eq (.int i) (.int j) h = .ok (.bl (decide (i = j))) h := by rw [← beq_eq_decide']; rfl
@[simp] theorem cNeI (i j : Int) : cmpD .ne (.int i) (.int j) h = .ok (.bl (!decide (i = j))) h := by rw [← beq_eq_decide']; rfl
@[simp] theorem cEqB (i j : Bool) : cmpD .eq (.bl i) (.bl j) h = .ok (.bl (decide (i = j))) h := by rw [← beq_eq_decide']; rfl
@[simp] theorem cNeB (i j : Bool) : cmpD .ne (.bl i) (.bl j) h = .ok (.bl (!decide (i = j))) h := by rw [← beq_eq_decide']; rfl
@[simp] theorem cEqS (i j : Str) : cmpD .eq (.str i) (.str j) h = .ok (.bl (decide (i = j))) h := by rw [← beq_eq_decide']; rfl
@[simp] theorem cNeS (i j : Str) : cmpD .ne (.str i) (.str j) h = .ok (.bl (!decide (i = j))) h := by rw [← beq_eq_decide']; rfl
@[simp] theorem cNeT (a b : List D) : cmpD .ne (.tup a) (.tup b) h = (match eqL (eqD 19) a b with | some k => .ok (.bl (!k)) h | none => .bad) := rfl
@[simp] theorem cEqT (a b : List D) : cmpD .eq (.tup a) (.tup b) h = (match eqL (eqD 19) a b with | some k => .ok (.bl k) h | none => .bad) := rfl
@[simp] theorem eqL0 (f : D → D → Option Bool) : eqL f [] [] = some true := rfl
@[simp] theorem eqL1 (f : D → D → Option Bool) (x y : D) (xs ys : List D) : eqL f (x :: xs) (y :: ys) = (match f x y, eqL f xs ys with | some a, some b => some (a && b) | _, _ => none) := rfl
@[simp] theorem eqDI (n : Nat) (i j : Int) : eqD n (.int i) (.int j) = some (decide (i = j)) := by rw [← beq_eq_decide']; cases n <;> rfl
@[simp] theorem eqDS (n : Nat) (i j : Str) : eqD n (.str i) (.str j) = some (decide (i = j)) := by rw [← beq_eq_decide']; cases n <;> rfl
@[simp] theorem eqDT (n : Nat) (a b : List D) : eqD (n + 1) (.tup a) (.tup b) = eqL (eqD n) a b := rfl
@[simp] theorem isInt (i : Int) : isinL (.int i) (.ty "int") h = .ok (.bl true) h := rfl
@[simp] theorem isIntB (i : Int) : isinL (.int i) (.ty "bool") h = .ok (.bl false) h := rfl
@[simp] theorem isIntT (i : Int) : isinL (.int i) (.ty "tuple") h = .ok (.bl false) h := rfl
@[simp] theorem isIntL (i : Int) : isinL (.int i) (.ty "list") h = .ok (.bl false) h := rfl
@[simp] theorem isIntTL (i : Int) : isinL (.int i) (.tup [.ty "tuple", .ty "list"]) h = .ok (.bl false) h := rfl
@[simp] theorem isTupT (l : List D) : isinL (.tup l) (.ty "tuple") h = .ok (.bl true) h := rfl
@[simp] theorem isTupL (l : List D) : isinL (.tup l) (.ty "list") h = .ok (.bl false) h := rfl
@[simp] theorem isTupTL (l : List D) : isinL (.tup l) (.tup [.ty "tuple", .ty "list"]) h = .ok (.bl true) h := rfl
@[simp] theorem isTupB (l : List D) : isinL (.tup l) (.ty "bool") h = .ok (.bl false) h := rfl
@[simp] theorem isTupI (l : List D) : isinL (.tup l) (.ty "int") h = .ok (.bl false) h := rfl
@[simp] theorem nmInt : Ty.int.nm = "int" := rfl
@[simp] theorem nmBool : Ty.bool.nm = "bool" := rfl
@[simp] theorem nmStr : Ty.str.nm = "str" := rfl
@[simp] theorem nmTup : Ty.tuple.nm = "tuple" := rfl
@[simp] theorem nmLst : Ty.list.nm = "list" := rfl
@[simp] theorem cIsN (x : D) : cmpD .is x .non h = .ok (.bl (isNon x)) h := rfl
@[simp] theorem cIsNt (x : D) : cmpD .isnot x .non h = .ok (.bl (!isNon x)) h := rfl
@[simp] theorem tBl (b : Bool) : truD (.bl b) h = some b := rfl
@[simp] theorem tInt (i : Int) : truD (.int i) h = some (i != 0) := rfl
@[simp] theorem sTup (l : List D) : seqD (.tup l) h = some l := rfl
@[simp] theorem sRef (n : Nat) : seqD (.ref n) h = lstAt h n := rfl
@[simp] theorem iTup (l : List D) (i : Int) : ixD (.tup l) (.int i) h = (match atI l i with | some d => .ok d h | none => .bad) := rfl
theorem iRef {n : Nat} {l : List D} (i : Int) (e : lstAt h n = some l) : ixD (.ref n) (.int i) h = (match atI l i with | some d => .ok d h | none => .bad) := by
  have d0 : dctAt h (.ref n) = none := by
    show (match h[n]? with | some (.dct l) => some l | _ => none) = none
    unfold lstAt at e
    cases q : h[n]? with
    | none => rfl
    | some o =>
      cases o with
      | lst l' => rfl
      | ro l' => rfl
      | dct l' => rw [q] at e; cases e
  have e2 : seqD (.ref n) h = some l := e
  unfold ixD ixS
  rw [d0, e2] <;> rfl
@[simp] theorem bLen (x : D) : bltD .len [x] h = (match seqD x h with | some l => .ok (.int l.length) h | none => .bad) := rfl
@[simp] theorem bIs (x y : D) : bltD .isinst [x, y] h = isinL x y h := rfl
@[simp] theorem bIntI (i : Int) : bltD .int [.int i] h = .ok (.int i) h := rfl
@[simp] theorem bIntB (i : Bool) : bltD .int [.bl i] h = .ok (.int (if i then 1 else 0)) h := rfl
@[simp] theorem bList (x : D) : bltD .list [x] h = (match seqD x h with | some l => .ok (.ref h.length) (h ++ [.lst l]) | none => .bad) := rfl
@[simp] theorem isLstR (n : Nat) : isLst (.ref n) h = (lstAt h n).isSome := rfl
@[simp] theorem appR (n : Nat) (y : D) : appD (.ref n) y h = (match h[n]? with | some (.lst l) => if l.length < 1000000 then .ok .non (h.set n (.lst (l ++ [y]))) else .bad | _ => .bad) := rfl
@[simp] theorem lstAt_last (l : List D) : lstAt (h ++ [.lst l]) h.length = some l := by simp [lstAt, lstOf]
theorem lstAt_app {n : Nat} {l : List D} (o : List O) (e : lstAt h n = some l) : lstAt (h ++ o) n = some l := by
  unfold lstAt at e ⊢
  cases q : h[n]? with
  | none => rw [q] at e; cases e
  | some u =>
    rw [List.getElem?_append_left (List.getElem?_eq_some_iff.mp q).1, q]
    rw [q] at e; exact e
@[simp] theorem get_last (o : O) : (h ++ [o])[h.length]? = some o := by simp
@[simp] theorem set_last (o o' : O) : (h ++ [o]).set h.length o' = h ++ [o'] := by simp
@[simp] theorem forS0 (t : Tg) (b : Ev → Hh → Rs Fl) : forS t b [] r h = .ok (.nx r) h := rfl
@[simp] theorem forS1 (t : Tg) (b : Ev → Hh → Rs Fl) (d : D) (ds : List D) : forS t b (d :: ds) r h = (match setT t d r with | none => .bad | some r1 => (b r1 h).bind fun fl h => match fl with | .nx r2 => forS t b ds r2 h | .ct r2 => forS t b ds r2 h | .bk r2 => .ok (.nx r2) h | .rt d => .ok (.rt d) h) := rfl
@[simp] theorem forDT (t : Tg) (b : Ev → Hh → Rs Fl) (l : List D) : forD W t b (.tup l) r h = forS t b l r h := rfl
@[simp] theorem forDR (t : Tg) (b : Ev → Hh → Rs Fl) (n : Nat) : forD W t b (.ref n) r h = forI t b n W 0 r h := rfl
@[simp] theorem endRt (d : D) : endD (.rt d) h = .ok d h := rfl
@[simp] theorem endNx (d : Ev) : endD (.nx d) h = .ok .non h := rfl
end
theorem call_eq {G : Gs} {T : Nat → Option Fc} {W n f : Nat} {c : Fc} {ds : List D} {h : Hh} (hc : T f = some c) (hl : ds.length = c.np) : callD G T W (n + 1) f ds h = (xss G (callD G T W n) W c.body (ds.map some ++ List.replicate (c.ns - c.np) none) h).bind endD := by
  simp only [callD, hc]
  rw [if_pos hl]
end Ng
end
section
set_option Elab.async false
set_option linter.all false
set_option maxRecDepth 100000
set_option maxHeartbeats 4000000
set_option autoImplicit false
namespace Ng
open PySem L2
def dW1c : E := (.and (.cmp .gt (.var 3) (.int 0)) (.cmp .lt (.blt .len (.cons (.var 5) .nil)) (.var 2)))
def dW1b : Ss := (.cons (.ex (.app (.var 5) (.bin .mod (.var 3) (.int 1013)))) (.cons (.asg (.nm 3) (.bin .fdiv (.var 3) (.int 1013))) .nil))
def dW2c : E := (.cmp .lt (.blt .len (.cons (.var 5) .nil)) (.var 2))
def dW2b : Ss := (.cons (.asg (.nm 6) (.bin .add (.blt .len (.cons (.var 5) .nil)) (.int 1))) (.cons (.asg (.nm 4) (.bin .mod (.bin .add (.bin .add (.bin .mul (.var 4) (.int 48271)) (.bin .mul (.bin .mul (.var 6) (.var 6)) (.int 6133))) (.int 17)) (.int 2147483647))) (.cons (.ex (.app (.var 5) (.bin .mod (.bin .mod (.bin .mul (.bin .mod (.var 4) (.int 65521)) (.bin .add (.bin .mod (.bin .fdiv (.var 4) (.int 65521)) (.int 32749)) (.int 1))) (.int 1000003)) (.int 1013)))) .nil)))
def InR (row : List Int) : Prop := ∀ v ∈ row, 0 ≤ v ∧ v < 1013
theorem InR.snoc {row : List Int} {v : Int} (h : InR row) (a : 0 ≤ v) (b : v < 1013) : InR (row ++ [v]) := fun u hu => by
  rcases List.mem_append.mp hu with hu | hu
  · exact h u hu
  · have : u = v := by simpa using hu
    subst this; exact ⟨a, b⟩
section
variable (G : Gs) (cl : Cl) (W : Nat) (h : Hh)
theorem dW1 (M : Nat) (hM : M ≤ 1000) (d0 d1 d4 : Option D) (d6 : Option D) : ∀ (k : Nat) (row : List Int) (cell : Int), row.length ≤ M → InR row → M - row.length < k →
    ∃ row' cell', row'.length ≤ M ∧ InR row' ∧ whileF (ev G cl dW1c) (xss G cl W dW1b) k [d0, d1, some (.int M), some (.int cell), d4, some (.ref h.length), d6] (h ++ [.lst (row.map D.int)])
      = .ok (.nx [d0, d1, some (.int M), some (.int cell'), d4, some (.ref h.length), d6]) (h ++ [.lst (row'.map D.int)])
  | 0, _, _, _, _, hk => by omega
  | k + 1, row, cell, hl, hr, hk => by
    by_cases hc : 0 < cell
    · by_cases hm : row.length < M
      · have hm' : ((row.length : Int) < (M : Int)) := by omega
        have hb : InR (row ++ [cell % 1013]) := hr.snoc (Int.emod_nonneg _ (by decide)) (Int.emod_lt_of_pos _ (by decide))
        obtain ⟨row', cell', h1, h2, h3⟩ := dW1 M hM d0 d1 d4 d6 k (row ++ [cell % 1013]) (cell / 1013) (by simp; omega) hb (by simp; omega)
        refine ⟨row', cell', h1, h2, ?_⟩
        rw [← h3]
        have hz : row.length < 1000000 := by omega
        simp (disch := omega) [whileF, dW1c, dW1b, hc, hm', hm, hz, bMod, bDiv]
      · refine ⟨row, cell, hl, hr, ?_⟩
        have hm' : ¬ ((row.length : Int) < (M : Int)) := by omega
        simp [whileF, dW1c, hc, hm', hm]
    · refine ⟨row, cell, hl, hr, ?_⟩
      simp [whileF, dW1c, hc]
def nxS (mark seed : Int) : Int := (seed * 48271 + mark * mark * 6133 + 17) % 2147483647
def nxV (s : Int) : Int := (s % 65521) * (s / 65521 % 32749 + 1) % 1000003 % 1013
theorem dT2 (d0 d1 d2 d3 d5 : Option D) (mark seed : Int) (hm : 0 ≤ mark) (hm2 : mark < 100000) (hh : Hh) :
    xs G cl W (.asg (.nm 4) (.bin .mod (.bin .add (.bin .add (.bin .mul (.var 4) (.int 48271)) (.bin .mul (.bin .mul (.var 6) (.var 6)) (.int 6133))) (.int 17)) (.int 2147483647))) [d0, d1, d2, d3, some (.int seed), d5, some (.int mark)] hh
      = .ok (.nx [d0, d1, d2, d3, some (.int (nxS mark seed)), d5, some (.int mark)]) hh := by
  have m1 : binD .mul (.int mark) (.int mark) hh = .ok (.int (mark * mark)) hh := bMulL hh (by omega) (by omega)
  have m2 : binD .mul (.int seed) (.int 48271) hh = .ok (.int (seed * 48271)) hh := bMulR hh (by omega) (by omega)
  have m3 : ∀ x : Int, binD .mul (.int x) (.int 6133) hh = .ok (.int (x * 6133)) hh := fun x => bMulR hh (by omega) (by omega)
  have q1 : ∀ x : Int, binD .mod (.int x) (.int 2147483647) hh = .ok (.int (x % 2147483647)) hh := fun x => bMod hh (by omega)
  have e1 : ∀ x : Int, (seed * 48271 + mark * mark * 6133 + 17) % 2147483647 = nxS mark seed := fun _ => rfl
  simp only [xsAsg, evBin, evVar, List.getElem?_cons_succ, ge0, evInt, bindOk, nxOk, m1, m2, m3, bAdd, q1, setNm, List.set_cons_succ, List.set_cons_zero, e1 0]
theorem dT3 (d0 d1 d2 d3 d6 : Option D) (row : List Int) (seed : Int) (hz : row.length < 1000000) :
    xs G cl W (.ex (.app (.var 5) (.bin .mod (.bin .mod (.bin .mul (.bin .mod (.var 4) (.int 65521)) (.bin .add (.bin .mod (.bin .fdiv (.var 4) (.int 65521)) (.int 32749)) (.int 1))) (.int 1000003)) (.int 1013)))) [d0, d1, d2, d3, some (.int seed), some (.ref h.length), d6] (h ++ [.lst (row.map D.int)])
      = .ok (.nx [d0, d1, d2, d3, some (.int seed), some (.ref h.length), d6]) (h ++ [.lst ((row ++ [nxV seed]).map D.int)]) := by
  have hk := Int.emod_nonneg seed (show (65521 : Int) ≠ 0 by decide)
  have hk2 := Int.emod_lt_of_pos seed (show (0 : Int) < 65521 by decide)
  have m4 : ∀ (x : Int) hh, binD .mul (.int (seed % 65521)) (.int x) hh = .ok (.int ((seed % 65521) * x)) hh := fun x hh => bMulL hh (by omega) (by omega)
  have q2 : ∀ (x : Int) hh, binD .mod (.int x) (.int 65521) hh = .ok (.int (x % 65521)) hh := fun x hh => bMod hh (by omega)
  have q3 : ∀ (x : Int) hh, binD .mod (.int x) (.int 32749) hh = .ok (.int (x % 32749)) hh := fun x hh => bMod hh (by omega)
  have q4 : ∀ (x : Int) hh, binD .mod (.int x) (.int 1000003) hh = .ok (.int (x % 1000003)) hh := fun x hh => bMod hh (by omega)
  have q5 : ∀ (x : Int) hh, binD .mod (.int x) (.int 1013) hh = .ok (.int (x % 1013)) hh := fun x hh => bMod hh (by omega)
  have q6 : ∀ (x : Int) hh, binD .fdiv (.int x) (.int 65521) hh = .ok (.int (x / 65521)) hh := fun x hh => bDiv hh (by omega) (by omega)
  have e2 : ∀ s : Int, (s % 65521) * (s / 65521 % 32749 + 1) % 1000003 % 1013 = nxV s := fun _ => rfl
  simp only [xsEx, evBin, evVar, List.getElem?_cons_succ, ge0, evInt, bindOk, nxOk, evApp, isLstR, lstAt_last, Option.isSome_some, if_true, bAdd, q2, q3, q4, q5, q6, m4, e2, appR, get_last, List.length_map, hz, if_pos, set_last, List.map_append, List.map_cons, List.map_nil]
theorem dT1 (d0 d1 d2 d3 d4 d6 : Option D) (row : List Int) :
    xs G cl W (.asg (.nm 6) (.bin .add (.blt .len (.cons (.var 5) .nil)) (.int 1))) [d0, d1, d2, d3, d4, some (.ref h.length), d6] (h ++ [.lst (row.map D.int)])
      = .ok (.nx [d0, d1, d2, d3, d4, some (.ref h.length), some (.int ((row.length : Int) + 1))]) (h ++ [.lst (row.map D.int)]) := by
  simp only [xsAsg, evBin, evBlt, evsCons, evsNil, evVar, List.getElem?_cons_succ, ge0, evInt, bindOk, nxOk, bLen, sRef, lstAt_last, List.length_map, bAdd, setNm, List.set_cons_succ, List.set_cons_zero]
theorem dW2turn (d0 d1 d2 d3 d6 : Option D) (row : List Int) (seed : Int) (hz : row.length < 1000) :
    xss G cl W dW2b [d0, d1, d2, d3, some (.int seed), some (.ref h.length), d6] (h ++ [.lst (row.map D.int)])
      = .ok (.nx [d0, d1, d2, d3, some (.int (nxS ((row.length : Int) + 1) seed)), some (.ref h.length), some (.int ((row.length : Int) + 1))]) (h ++ [.lst ((row ++ [nxV (nxS ((row.length : Int) + 1) seed)]).map D.int)]) := by
  rw [dW2b, xssNx (dT1 G cl W h d0 d1 d2 d3 _ d6 row), xssNx (dT2 G cl W d0 d1 d2 d3 _ _ seed (by omega) (by omega) _), xssNx (dT3 G cl W h _ _ _ _ _ row _ (by omega)), xssNil]
theorem dW2 (M : Nat) (hM : M ≤ 1000) (d0 d1 d3 : Option D) : ∀ (k : Nat) (row : List Int) (seed : Int) (d6 : Option D), row.length ≤ M → InR row → M - row.length < k →
    ∃ row' seed' d6', row'.length = M ∧ InR row' ∧ whileF (ev G cl dW2c) (xss G cl W dW2b) k [d0, d1, some (.int M), d3, some (.int seed), some (.ref h.length), d6] (h ++ [.lst (row.map D.int)])
      = .ok (.nx [d0, d1, some (.int M), d3, some (.int seed'), some (.ref h.length), d6']) (h ++ [.lst (row'.map D.int)]) := by
  intro k
  induction k with
  | zero => intro row seed d6 _ _ hk; omega
  | succ k ih =>
    intro row seed d6 hl hr hk
    by_cases hm : row.length < M
    · have hm' : ((row.length : Int) < (M : Int)) := by omega
      obtain ⟨row', seed', d6', h1, h2, h3⟩ := ih (row ++ [nxV (nxS ((row.length : Int) + 1) seed)]) (nxS ((row.length : Int) + 1) seed) (some (.int ((row.length : Int) + 1))) (by simp; omega)
        (hr.snoc (Int.emod_nonneg _ (by decide)) (Int.emod_lt_of_pos _ (by decide))) (by simp; omega)
      refine ⟨row', seed', d6', h1, h2, ?_⟩
      rw [← h3]
      have hc : ev G cl dW2c [d0, d1, some (.int M), d3, some (.int seed), some (.ref h.length), d6] (h ++ [.lst (row.map D.int)]) = .ok (.bl true) (h ++ [.lst (row.map D.int)]) := by simp [dW2c, hm]
      simp only [whileF, hc, bindOk, nxOk, tBl, dW2turn G cl W h d0 d1 _ d3 d6 row seed (by omega)]
    · refine ⟨row, seed, d6, by omega, hr, ?_⟩
      have hc : ev G cl dW2c [d0, d1, some (.int M), d3, some (.int seed), some (.ref h.length), d6] (h ++ [.lst (row.map D.int)]) = .ok (.bl false) (h ++ [.lst (row.map D.int)]) := by simp [dW2c, hm]
      simp only [whileF, hc, bindOk, nxOk, tBl]
def dIf : S := .iff (.cmp .lt (.var 1) (.blt .len (.cons (.var 0) .nil))) (.cons (.asg (.nm 3) (.ix (.var 0) (.var 1))) .nil) (.cons (.iff (.cmp .gt (.blt .len (.cons (.var 0) .nil)) (.int 0)) (.cons (.asg (.nm 3) (.bin .add (.bin .add (.bin .mod (.ix (.var 0) (.bin .mod (.var 1) (.blt .len (.cons (.var 0) .nil)))) (.int 999983)) (.bin .mul (.bin .mul (.var 1) (.var 1)) (.int 97))) (.int 1))) .nil) .nil) .nil)
def drawsB : Ss := (.cons (.asg (.nm 3) (.bin .add (.bin .mul (.int 7) (.var 1)) (.int 1))) (.cons dIf (.cons (.asg (.nm 4) (.bin .add (.bin .add (.bin .mod (.var 3) (.int 999983)) (.bin .mul (.int 31) (.var 1))) (.int 5))) (.cons (.asg (.nm 5) (.lst .nil)) (.cons (.iff (.cmp .ge (.var 3) (.bin .pow (.int 10) (.int 18))) (.cons (.whl dW1c dW1b) .nil) .nil) (.cons (.whl dW2c dW2b) (.cons (.ret (.var 5)) .nil)))))))
theorem atI_ok {l : List Int} {i : Int} (a : 0 ≤ i) (b : i < l.length) : ∃ v, atI (l.map D.int) i = some (.int v) := by
  have hb : i.toNat < l.length := by omega
  refine ⟨l[i.toNat], ?_⟩
  have := atI_nat (xs := l.map D.int) (j := i.toNat) (v := .int l[i.toNat]) (by rw [List.getElem?_map, List.getElem?_eq_getElem hb]; rfl)
  rwa [show ((i.toNat : Nat) : Int) = i by omega] at this
theorem dIf_ok (s : Nat) (ns : List Int) (at' c0 : Int) (d2 d4 d5 d6 : Option D) (h0 : 0 ≤ at') (h1 : at' < 100000) (hs : lstAt h s = some (ns.map D.int)) :
    ∃ c : Int, xs G cl W dIf [some (.ref s), some (.int at'), d2, some (.int c0), d4, d5, d6] h = .ok (.nx [some (.ref s), some (.int at'), d2, some (.int c), d4, d5, d6]) h := by
  by_cases hl : at' < (ns.length : Int)
  · obtain ⟨v, hv⟩ := atI_ok h0 hl
    exact ⟨v, by simp [dIf, hs, hl, hv, iRef h _ hs]⟩
  · by_cases hp : (0 : Int) < ns.length
    · obtain ⟨v, hv⟩ := atI_ok (l := ns) (i := at' % ns.length) (Int.emod_nonneg _ (by omega)) (Int.emod_lt_of_pos _ hp)
      have m0 : ∀ x : Int, binD .mod (.int x) (.int ns.length) h = .ok (.int (x % ns.length)) h := fun x => bMod h hp
      have m1 : binD .mul (.int at') (.int at') h = .ok (.int (at' * at')) h := bMulL h (by omega) (by omega)
      have m2 : ∀ x : Int, binD .mul (.int x) (.int 97) h = .ok (.int (x * 97)) h := fun x => bMulR h (by omega) (by omega)
      have m3 : ∀ x : Int, binD .mod (.int x) (.int 999983) h = .ok (.int (x % 999983)) h := fun x => bMod h (by omega)
      refine ⟨v % 999983 + at' * at' * 97 + 1, ?_⟩
      simp only [dIf, xsIff, xssCons, xssNil, xsAsg, evCmp, evVar, List.getElem?_cons_succ, ge0, evBlt, evsCons, evsNil, bindOk, nxOk, bLen, sRef, hs, List.length_map, cLt, tBl, hl, decide_false, evInt, cGt, hp, decide_true, evBin, evIx, m0, iRef h _ hs, hv, m1, m2, m3, bAdd, setNm, List.set_cons_succ, List.set_cons_zero]
    · have hp2 : ¬ (0 < ns.length) := by omega
      exact ⟨c0, by simp [dIf, hs, hl, hp, hp2]⟩
/-- THE DRAWS: a new list of that many ints from 0 to 1012 -/
theorem draws_ok (s : Nat) (ns : List Int) (at' : Int) (M : Nat) (hM : M ≤ 1000) (h0 : 0 ≤ at') (h1 : at' < 100000) (hs : lstAt h s = some (ns.map D.int)) (hW : 2000 ≤ W) :
    ∃ row : List Int, row.length = M ∧ InR row ∧ xss G cl W drawsB [some (.ref s), some (.int at'), some (.int M), none, none, none, none] h = .ok (.rt (.ref h.length)) (h ++ [.lst (row.map D.int)]) := by
  have a1 : xs G cl W (.asg (.nm 3) (.bin .add (.bin .mul (.int 7) (.var 1)) (.int 1))) [some (.ref s), some (.int at'), some (.int M), none, none, none, none] h = .ok (.nx [some (.ref s), some (.int at'), some (.int M), some (.int (7 * at' + 1)), none, none, none]) h := by
    have m1 : binD .mul (.int 7) (.int at') h = .ok (.int (7 * at')) h := bMulL h (by omega) (by omega)
    simp only [xsAsg, evBin, evVar, List.getElem?_cons_succ, ge0, evInt, bindOk, nxOk, m1, bAdd, setNm, List.set_cons_succ, List.set_cons_zero]
  obtain ⟨c, a2⟩ := dIf_ok G cl W h s ns at' (7 * at' + 1) (some (.int M)) none none none h0 h1 hs
  have a3 : xs G cl W (.asg (.nm 4) (.bin .add (.bin .add (.bin .mod (.var 3) (.int 999983)) (.bin .mul (.int 31) (.var 1))) (.int 5))) [some (.ref s), some (.int at'), some (.int M), some (.int c), none, none, none] h = .ok (.nx [some (.ref s), some (.int at'), some (.int M), some (.int c), some (.int (c % 999983 + 31 * at' + 5)), none, none]) h := by
    have m1 : binD .mul (.int 31) (.int at') h = .ok (.int (31 * at')) h := bMulL h (by omega) (by omega)
    have m3 : ∀ x : Int, binD .mod (.int x) (.int 999983) h = .ok (.int (x % 999983)) h := fun x => bMod h (by omega)
    simp only [xsAsg, evBin, evVar, List.getElem?_cons_succ, ge0, evInt, bindOk, nxOk, m1, m3, bAdd, setNm, List.set_cons_succ, List.set_cons_zero]
  have a4 : ∀ x : Int, xs G cl W (.asg (.nm 5) (.lst .nil)) [some (.ref s), some (.int at'), some (.int M), some (.int c), some (.int x), none, none] h = .ok (.nx [some (.ref s), some (.int at'), some (.int M), some (.int c), some (.int x), some (.ref h.length), none]) (h ++ [.lst (([] : List Int).map D.int)]) := fun x => by
    simp [xsAsg]
  have a5 : ∀ x : Int, ∃ row c', row.length ≤ M ∧ InR row ∧ xs G cl W (.iff (.cmp .ge (.var 3) (.bin .pow (.int 10) (.int 18))) (.cons (.whl dW1c dW1b) .nil) .nil) [some (.ref s), some (.int at'), some (.int M), some (.int c), some (.int x), some (.ref h.length), none] (h ++ [.lst (([] : List Int).map D.int)])
      = .ok (.nx [some (.ref s), some (.int at'), some (.int M), some (.int c'), some (.int x), some (.ref h.length), none]) (h ++ [.lst (row.map D.int)]) := fun x => by
    by_cases hc : (1000000000000000000 : Int) ≤ c
    · obtain ⟨row, c', r1, r2, r3⟩ := dW1 G cl W h M hM (some (.ref s)) (some (.int at')) (some (.int x)) none W [] c (Nat.zero_le _) (fun _ z => by cases z) (by simp; omega)
      refine ⟨row, c', r1, r2, ?_⟩
      simp only [xsIff, evCmp, evVar, List.getElem?_cons_succ, ge0, evBin, evInt, bindOk, nxOk, bPow18, cGe, hc, decide_true, tBl, xssCons, xsWhl, r3, xssNil]
    · refine ⟨[], c, Nat.zero_le _, (fun _ z => by cases z), ?_⟩
      simp only [xsIff, evCmp, evVar, List.getElem?_cons_succ, ge0, evBin, evInt, bindOk, nxOk, bPow18, cGe, hc, decide_false, tBl, xssNil]
  obtain ⟨row1, c', r1, r2, a5⟩ := a5 (c % 999983 + 31 * at' + 5)
  obtain ⟨row, sd, d6, q1, q2, a6⟩ := dW2 G cl W h M hM (some (.ref s)) (some (.int at')) (some (.int c')) W row1 (c % 999983 + 31 * at' + 5) none r1 r2 (by omega)
  refine ⟨row, q1, q2, ?_⟩
  rw [drawsB, xssNx a1, xssNx a2, xssNx a3, xssNx (a4 _), xssNx a5, xssNx (show xs G cl W (.whl dW2c dW2b) _ _ = _ from (xsWhl G cl W _ _ dW2c dW2b).trans a6)]
  exact xssRt (by simp only [xsRet, evVar, List.getElem?_cons_succ, ge0, bindOk, nxOk])
end
end Ng
end
section
set_option Elab.async false
set_option linter.all false
set_option maxRecDepth 100000
set_option maxHeartbeats 4000000
set_option autoImplicit false
namespace Ng
open PySem L2
theorem forS_id {t : Tg} {body : Ev → Hh → Rs Fl} (F : Ev → Prop) (h : Hh) : ∀ (l : List D), (∀ d ∈ l, ∀ r, F r → ∃ r1 r2, setT t d r = some r1 ∧ body r1 h = .ok (.nx r2) h ∧ F r2) → ∀ r, F r → ∃ r', forS t body l r h = .ok (.nx r') h ∧ F r'
  | [], _, r, hF => ⟨r, by simp, hF⟩
  | d :: l, hb, r, hF => by
    obtain ⟨r1, r2, e1, e2, f2⟩ := hb d List.mem_cons_self r hF
    obtain ⟨r', e3, f3⟩ := forS_id F h l (fun d hd => hb d (List.mem_cons_of_mem _ hd)) r2 f2
    refine ⟨r', ?_, f3⟩
    rw [← e3, forS1, e1]
    show (body r1 h).bind _ = _
    rw [e2]
    rfl
/-- the eight turns -/
def tx (t x y : Int) : Int := if t = 0 then x else if t = 1 then -y else if t = 2 then -x else if t = 3 then y else if t = 4 then -x else if t = 5 then -y else if t = 6 then x else y
def ty (t x y : Int) : Int := if t = 0 then y else if t = 1 then x else if t = 2 then -y else if t = 3 then -x else if t = 4 then y else if t = 5 then -x else if t = 6 then -y else x
section
variable (h : Hh)
@[simp] theorem isStrTL (i : Str) : isinL (.str i) (.tup [.ty "tuple", .ty "list"]) h = .ok (.bl false) h := rfl
@[simp] theorem isBlTL (i : Bool) : isinL (.bl i) (.tup [.ty "tuple", .ty "list"]) h = .ok (.bl false) h := rfl
@[simp] theorem isNonTL : isinL .non (.tup [.ty "tuple", .ty "list"]) h = .ok (.bl false) h := rfl
@[simp] theorem isStrB (i : Str) : isinL (.str i) (.ty "bool") h = .ok (.bl false) h := rfl
@[simp] theorem isStrI (i : Str) : isinL (.str i) (.ty "int") h = .ok (.bl false) h := rfl
@[simp] theorem isStrS (i : Str) : isinL (.str i) (.ty "str") h = .ok (.bl true) h := rfl
@[simp] theorem isBlB (i : Bool) : isinL (.bl i) (.ty "bool") h = .ok (.bl true) h := rfl
@[simp] theorem inN : isNon .non = true := rfl
@[simp] theorem inI (i : Int) : isNon (.int i) = false := rfl
@[simp] theorem inS (i : Str) : isNon (.str i) = false := rfl
@[simp] theorem inB (i : Bool) : isNon (.bl i) = false := rfl
@[simp] theorem inT (i : List D) : isNon (.tup i) = false := rfl
@[simp] theorem inR (i : Nat) : isNon (.ref i) = false := rfl
end
/-- plain data, no deeper than that -/
def pd : Nat → D → Bool
  | _, .int _ => true
  | _, .str _ => true
  | _, .bl _ => true
  | _, .non => true
  | k + 1, .tup l => decide (l.length ≤ 1000) && l.all (pd k)
  | _, _ => false
theorem rngD_mem {j : Nat} {d : D} (hd : d ∈ rngD 0 j) : ∃ k : Nat, k < j ∧ d = .int k := by
  unfold rngD at hd
  obtain ⟨k, hk, rfl⟩ := List.mem_map.mp hd
  exact ⟨k, by simpa using hk, by simp⟩
end Ng
end
section
set_option Elab.async false
set_option linter.all false
set_option maxRecDepth 100000
set_option maxHeartbeats 4000000
set_option autoImplicit false
namespace Ng
open PySem L2
theorem get_mid (h0 g : Hh) (o : O) : (h0 ++ o :: g)[h0.length]? = some o := by simp
theorem set_mid (h0 g : Hh) (o o' : O) : (h0 ++ o :: g).set h0.length o' = h0 ++ o' :: g := by simp
theorem app_mid (h0 g : Hh) (l : List D) (y : D) (hl : l.length < 1000000) : appD (.ref h0.length) y (h0 ++ .lst l :: g) = .ok .non (h0 ++ .lst (l ++ [y]) :: g) := by
  rw [appR, get_mid]
  show (if _ then _ else _) = _
  rw [if_pos hl, set_mid]
theorem lstAt_mid (h0 g : Hh) (l : List D) : lstAt (h0 ++ .lst l :: g) h0.length = some l := by
  unfold lstAt; rw [get_mid]; rfl
theorem evComp_lst {G : Gs} {cl : Cl} {t : Tg} {it cs : Es} {e : E} {N : List Str} {cap : List Nat} {r : Ev} {h h1 h' : Hh} {n : Nat} {l : List D} (hi : evs G cl it r h = .ok [.ref n] h1) (hl : lstAt h1 n = some l)
    (hc : compI t (evt G cl cs) (ev G cl e) h1.length n (l.length + 1) 0 (blockE N cap r) (h1 ++ [O.lst []]) = .ok () h') : ev G cl (.comp t .sq it cs e N cap) r h = .ok (.ref h1.length) h' := by
  rw [evComp, hi]
  show (compL t _ _ _ .sq [.ref n] h1 _ _).bind _ = _
  have e' : compL t (evt G cl cs) (ev G cl e) h1.length .sq [.ref n] h1 (blockE N cap r) (h1 ++ [O.lst []]) = .ok () h' := by
    show (match lstAt h1 n with | some l => compI t (evt G cl cs) (ev G cl e) h1.length n (l.length + 1) 0 (blockE N cap r) (h1 ++ [O.lst []]) | none => .bad) = _
    rw [hl]; exact hc
  rw [e']; rfl
theorem xsFor_r1 {G : Gs} {cl : Cl} {W : Nat} {t : Tg} {e : E} {b : Ss} {r : Ev} {h h1 h' : Hh} {j : Int} {fl : Fl} (hi : ev G cl e r h = .ok (.int j) h1) (hj : okR j) (hf : forS t (xss G cl W b) (rngD 0 j) r h1 = .ok fl h') : xs G cl W (.forr t (.r1 e) b) r h = .ok fl h' := by
  rw [xsFor1, hi]
  show (if okR j then _ else _) = _
  rw [if_pos hj]; exact hf
theorem okR_nat {n : Nat} (h : n ≤ 1000000) : okR (n : Int) := by unfold okR; omega
end Ng
end
section
set_option Elab.async false
set_option linter.all false
set_option maxRecDepth 100000
set_option maxHeartbeats 4000000
set_option autoImplicit false
namespace Ng
open PySem L2
theorem forI_gen {t : Tg} {body : Ev → Hh → Rs Fl} {n : Nat} {l : List D} (I : Nat → Ev → Hh → Prop) (R : D → Hh → Prop) (hl : ∀ i r h, I i r h → lstAt h n = some l)
    (hb : ∀ i d, l[i]? = some d → ∀ r h, I i r h → ∃ r1, setT t d r = some r1 ∧ ((∃ r2 h2, body r1 h = .ok (.nx r2) h2 ∧ I (i + 1) r2 h2) ∨ ∃ d h2, body r1 h = .ok (.rt d) h2 ∧ R d h2)) :
    ∀ (k i : Nat) (r : Ev) (h : Hh), I i r h → i ≤ l.length → l.length - i < k → (∃ r' h', forI t body n k i r h = .ok (.nx r') h' ∧ I l.length r' h') ∨ ∃ d h', forI t body n k i r h = .ok (.rt d) h' ∧ R d h' := by
  intro k
  induction k with
  | zero => intro i r h _ _ hk; omega
  | succ k ih =>
    intro i r h hI hi hk
    have e0 := hl i r h hI
    by_cases hlt : i < l.length
    · have ed : l[i]? = some l[i] := List.getElem?_eq_getElem hlt
      obtain ⟨r1, e1, hbb⟩ := hb i _ ed r h hI
      rcases hbb with ⟨r2, h2, e2, i2⟩ | ⟨d, h2, e2, q⟩
      · rcases ih (i + 1) r2 h2 i2 hlt (by omega) with ⟨r', h', e3, i3⟩ | ⟨d, h', e3, q⟩
        · exact .inl ⟨r', h', by simp only [forI, e0, ed, e1, e2, bindOk, e3], i3⟩
        · exact .inr ⟨d, h', by simp only [forI, e0, ed, e1, e2, bindOk, e3], q⟩
      · exact .inr ⟨d, h2, by simp only [forI, e0, ed, e1, e2, bindOk], q⟩
    · have ed : l[i]? = none := List.getElem?_eq_none_iff.mpr (by omega)
      have hi' : i = l.length := by omega
      subst hi'
      exact .inl ⟨r, h, by simp only [forI, e0, ed], hI⟩
theorem lstAt_mid2 {h0 : Hh} {n : Nat} {l : List D} (g : Hh) (e : lstAt h0 n = some l) : lstAt (h0 ++ g) n = some l := lstAt_app h0 g e
/-- one item of a comprehension -/
structure It {α : Type} (φ : α → D) (t : Tg) (cs : Ev → Hh → Rs Bool) (f : Ev → Hh → Rs D) (h0 : Hh) (F : Ev → Prop) (p : α → Bool) (g : α → D) (x : α) : Prop where
  it : ∀ r ys gb, F r → ∃ r1 g1, setT t (φ x) r = some r1 ∧ cs r1 (h0 ++ .lst ys :: gb) = .ok (p x) (h0 ++ .lst ys :: (gb ++ g1)) ∧ F r1 ∧ (p x = true → ∃ g2, f r1 (h0 ++ .lst ys :: (gb ++ g1)) = .ok (g x) (h0 ++ .lst ys :: (gb ++ g1 ++ g2)))
theorem compI_gen {α : Type} {φ : α → D} {t : Tg} {cs : Ev → Hh → Rs Bool} {f : Ev → Hh → Rs D} {h0 : Hh} {F : Ev → Prop} {p : α → Bool} {g : α → D} {n : Nat} {l : List α} (hl : lstAt h0 n = some (l.map φ)) (hb : ∀ d ∈ l, It φ t cs f h0 F p g d) (hm : ∀ z : Nat, z ≤ 2 * l.length → z < 1000000) :
    ∀ k i r ys gb, F r → i ≤ l.length → l.length - i < k → ys.length ≤ i → ∃ gb', compI t cs f h0.length n k i r (h0 ++ .lst ys :: gb) = .ok () (h0 ++ .lst (ys ++ ((l.drop i).filter p).map g) :: gb') := by
  intro k
  induction k with
  | zero => intro i r ys gb _ _ hk; omega
  | succ k ih =>
    intro i r ys gb hF hi hk hy
    have e0 : lstAt (h0 ++ .lst ys :: gb) n = some (l.map φ) := lstAt_mid2 _ hl
    by_cases hlt : i < l.length
    · have ed : (l.map φ)[i]? = some (φ l[i]) := by rw [List.getElem?_map, List.getElem?_eq_getElem hlt]; rfl
      have hdr : l.drop i = l[i] :: l.drop (i + 1) := List.drop_eq_getElem_cons hlt
      obtain ⟨r1, g1, e1, e2, f1, e3⟩ := (hb l[i] (List.getElem_mem hlt)).it r ys gb hF
      by_cases hp : p l[i] = true
      · obtain ⟨g2, e3⟩ := e3 hp
        obtain ⟨gb', e4⟩ := ih (i + 1) r1 (ys ++ [g l[i]]) (gb ++ g1 ++ g2) f1 hlt (by omega) (by simp; omega)
        refine ⟨gb', ?_⟩
        rw [hp] at e2
        simp only [compI, e0, ed, e1, e2, bindOk, if_true, e3, app_mid _ _ _ _ (hm ys.length (by omega)), e4, hdr, List.filter_cons, hp]
        simp
      · obtain ⟨gb', e4⟩ := ih (i + 1) r1 ys (gb ++ g1) f1 hlt (by omega) (by omega)
        refine ⟨gb', ?_⟩
        have hp' : p l[i] = false := by simpa using hp
        rw [hp'] at e2
        simp only [compI, e0, ed, e1, e2, bindOk, if_false, Bool.false_eq_true, e4, hdr, List.filter_cons, hp']
    · have ed : (l.map φ)[i]? = none := List.getElem?_eq_none_iff.mpr (by simp; omega)
      refine ⟨gb, ?_⟩
      simp only [compI, e0, ed, List.drop_eq_nil_of_le (show l.length ≤ i by omega), List.filter_nil, List.map_nil, List.append_nil]
section
variable {α : Type} {φ : α → D} {G : Gs} {cl : Cl} {t : Tg} {it cs : Es} {e : E} {N : List Str} {cap : List Nat} {r : Ev} {h h1 : Hh}
theorem evC_lst {n : Nat} {l : List α} (φ : α → D) (F : Ev → Prop) (p : α → Bool) (g : α → D) (hi : evs G cl it r h = .ok [.ref n] h1) (hl : lstAt h1 n = some (l.map φ)) (hm : l.length ≤ 1000) (hF : F (blockE N cap r)) (hb : ∀ d ∈ l, It φ t (evt G cl cs) (ev G cl e) h1 F p g d) :
    ∃ gb, ev G cl (.comp t .sq it cs e N cap) r h = .ok (.ref h1.length) (h1 ++ .lst ((l.filter p).map g) :: gb) := by
  obtain ⟨gb, e1⟩ := compI_gen hl hb (fun z hz => by omega) ((l.map φ).length + 1) 0 (blockE N cap r) [] [] hF (Nat.zero_le _) (by simp) (Nat.le_refl _)
  exact ⟨gb, evComp_lst hi hl e1⟩
/-- every item is kept, nothing else laid -/
theorem evC_map {n : Nat} {l : List α} (φ : α → D) (F : Ev → Prop) (g : α → D) (hi : evs G cl it r h = .ok [.ref n] h1) (hl : lstAt h1 n = some (l.map φ)) (hm : l.length ≤ 1000) (hF : F (blockE N cap r))
    (hb : ∀ d ∈ l, ∀ r h, F r → ∃ r1, setT t (φ d) r = some r1 ∧ F r1 ∧ ev G cl e r1 h = .ok (g d) h) :
    ∃ gb, ev G cl (.comp t .sq it .nil e N cap) r h = .ok (.ref h1.length) (h1 ++ .lst (l.map g) :: gb) := by
  obtain ⟨gb, q⟩ := evC_lst (cs := .nil) (e := e) (t := t) (N := N) (cap := cap) φ F (fun _ => true) g hi hl hm hF fun d hd => ⟨fun r ys gb hr => by
    obtain ⟨r1, e1, f1, e2⟩ := hb d hd r (h1 ++ .lst ys :: gb) hr
    exact ⟨r1, [], e1, by rw [evtNil, List.append_nil], f1, fun _ => ⟨[], by rw [List.append_nil, List.append_nil]; exact e2⟩⟩⟩
  rw [List.filter_eq_self.mpr (fun _ _ => rfl)] at q
  exact ⟨gb, q⟩
end
theorem isLstTy {n : Nat} {l : List D} (h : Hh) (e : lstAt h n = some l) : tyD (.ref n) h = some .list := by
  show (match lstAt h n with | some _ => some Ty.list | none => none) = _
  rw [e]
theorem isLstT {n : Nat} {l : List D} (h : Hh) (e : lstAt h n = some l) : isinL (.ref n) (.ty "tuple") h = .ok (.bl false) h := by
  simp [isinL, isinD, isLstTy h e, tyNames, isTy]
theorem isLstL {n : Nat} {l : List D} (h : Hh) (e : lstAt h n = some l) : isinL (.ref n) (.ty "list") h = .ok (.bl true) h := by
  simp [isinL, isinD, isLstTy h e, tyNames, isTy]
theorem isLstTL {n : Nat} {l : List D} (h : Hh) (e : lstAt h n = some l) : isinL (.ref n) (.tup [.ty "tuple", .ty "list"]) h = .ok (.bl true) h := by
  simp [isinL, isinD, isinAny, tysOf, isLstTy h e, tyNames, isTy]
theorem any_eqF (L : List Int) (b : Int) : (L.map D.int).any (fun y => eqF y (.int b)) = L.any (· == b) := by
  induction L with
  | nil => rfl
  | cons x L ih => simp only [List.map_cons, List.any_cons, ih]; rfl
theorem all_flat (L : List Int) : (L.map D.int).all flat = true := by
  induction L with
  | nil => rfl
  | cons x L ih => simp only [List.map_cons, List.all_cons, ih]; rfl
theorem cInn {h : Hh} {n : Nat} {L : List Int} (b : Int) (e : lstAt h n = some (L.map D.int)) : cmpD .inn (.int b) (.ref n) h = .ok (.bl (L.any (· == b))) h := by
  show (match seqD (.ref n) h with | some l => inD (.int b) l false h | none => .bad) = _
  rw [sRef, e]
  show (if _ then _ else _) = _
  rw [if_pos ⟨rfl, all_flat L⟩, any_eqF]
  rfl
theorem intsD_map (L : List Int) : intsD (L.map D.int) = some L := by
  induction L with
  | nil => rfl
  | cons x L ih => simp only [List.map_cons, intsD, ih]; rfl
def best1 (mx : Bool) (d : Int) : List Int → Int
  | [] => d
  | i :: r => bestI mx i r
theorem bestD_ok {h : Hh} {n : Nat} {L : List Int} (mx : Bool) (d : Int) (e : lstAt h n = some (L.map D.int)) : bestD mx (.ref n) (.int d) h = .ok (.int (best1 mx d L)) h := by
  have e1 : isLst (.ref n) h = true := by rw [isLstR, e]; rfl
  unfold bestD
  rw [e1, sRef, e]
  show (match intsD (L.map D.int) with | some (i :: r) => Rs.ok (D.int (bestI mx i r)) h | some [] => Rs.ok (D.int d) h | none => .bad) = _
  rw [intsD_map]
  cases L <;> rfl
@[simp] theorem bMaxI (i j : Int) (h : Hh) : bltD .max [.int i, .int j] h = .ok (.int (if j > i then j else i)) h := rfl
@[simp] theorem bMinI (i j : Int) (h : Hh) : bltD .min [.int i, .int j] h = .ok (.int (if j < i then j else i)) h := rfl
theorem lrg_ok (k : Int) (h : Hh) (h0 : 0 ≤ k) (h1 : k ≤ 1000) : lrgD (.int k) h = .ok (.ref h.length) (h ++ [.lst (rngD 0 k)]) := by
  show (if _ then _ else _) = _
  rw [if_pos (by omega)]
end Ng
end
section
set_option Elab.async false
set_option linter.all false
set_option maxRecDepth 100000
set_option maxHeartbeats 4000000
set_option autoImplicit false
namespace Ng
open PySem L2
@[simp] theorem ne_us : (Str.ofString "unseen" = Str.ofString "star") = False := eq_false (by decide)
@[simp] theorem ne_su : (Str.ofString "star" = Str.ofString "unseen") = False := eq_false (by decide)
@[simp] theorem ne_du : (Str.ofString "under" = Str.ofString "unseen") = False := eq_false (by decide)
@[simp] theorem ne_uu : (Str.ofString "unseen" = Str.ofString "under") = False := eq_false (by decide)
@[simp] theorem ne_ds : (Str.ofString "under" = Str.ofString "star") = False := eq_false (by decide)
@[simp] theorem ne_sd : (Str.ofString "star" = Str.ofString "under") = False := eq_false (by decide)
inductive Sy where
  | un | st (k : Int) | ud (k : Int)
deriving DecidableEq
def Sy.d : Sy → D
  | .un => .tup [.str "unseen", .int 0]
  | .st k => .tup [.str "star", .int k]
  | .ud k => .tup [.str "under", .int k]
def Sy.w : Sy → Str
  | .un => "unseen"
  | .st _ => "star"
  | .ud _ => "under"
def Sy.n : Sy → Int
  | .un => 0
  | .st k => k
  | .ud k => k
def Sy.lo : Sy → Int
  | .st k => k
  | _ => 0
def Sy.hi : Sy → Int
  | .un => 9
  | .st k => k
  | .ud k => k - 1
def Sy.ok : Sy → Prop
  | .un => True
  | .st k => 1 ≤ k ∧ k ≤ 9
  | .ud k => 1 ≤ k ∧ k ≤ 9
def rngI (k : Int) : List Int := (List.range (k - 0).toNat).map fun (j : Nat) => 0 + (j : Int)
theorem rngI_map (k : Int) : (rngI k).map D.int = rngD 0 k := by
  unfold rngI rngD
  rw [List.map_map]
  rfl
def Sy.left : Sy → List Int
  | .un => rngI 10
  | .st k => [k]
  | .ud k => rngI k
def syOf (v : Int) : Sy := if v % 19 = 0 then .un else if v % 19 < 10 then .st (v % 19) else .ud (v % 19 - 9)
theorem syOf_ok (v : Int) : (syOf v).ok := by
  unfold syOf
  split
  · trivial
  · split
    · exact ⟨by omega, by omega⟩
    · exact ⟨by omega, by omega⟩
def all19 : List Sy := [.un, .st 1, .st 2, .st 3, .st 4, .st 5, .st 6, .st 7, .st 8, .st 9, .ud 1, .ud 2, .ud 3, .ud 4, .ud 5, .ud 6, .ud 7, .ud 8, .ud 9]
theorem n9 {k : Int} (h : 1 ≤ k ∧ k ≤ 9) : k = 1 ∨ k = 2 ∨ k = 3 ∨ k = 4 ∨ k = 5 ∨ k = 6 ∨ k = 7 ∨ k = 8 ∨ k = 9 := by omega
theorem Sy.mem {s : Sy} (h : s.ok) : s ∈ all19 := by
  cases s with
  | un => decide
  | st k => rcases n9 h with rfl | rfl | rfl | rfl | rfl | rfl | rfl | rfl | rfl <;> decide
  | ud k => rcases n9 h with rfl | rfl | rfl | rfl | rfl | rfl | rfl | rfl | rfl <;> decide
def spD2 (s : Sy) : D := .tup [.int s.lo, .int s.hi]
def clo (ss : List Sy) : Int := best1 true 0 (ss.map Sy.lo)
def chi (ss : List Sy) : Int := best1 false 9 (ss.map Sy.hi)
theorem Sy.pd (s : Sy) : Ng.pd 1 s.d = true := by cases s <;> simp [Ng.pd, Sy.d]
@[simp] theorem catchOk (sub : List (Nat × Nat)) (g : Nat) (j : Option Nat) (hs : List HS) (fl : Fl) (h : Hh) : catchD sub g j hs (.ok fl h) = .ok fl h := rfl
theorem agree2 : ∀ a ∈ all19, ∀ b ∈ all19, decide (clo [a, b] ≤ chi [a, b]) = a.left.any (fun x => b.left.any (· == x)) ∧ decide (clo [b, a] ≤ chi [b, a]) = a.left.any (fun x => b.left.any (· == x)) := by decide +kernel
def has (s : Sy) (b : Int) : Bool := s.left.any (· == b)
section
variable {ss : List Sy} (ne : ss ≠ []) (ok : ∀ s ∈ ss, s.ok)
include ne ok
end
section
variable {ss : List Sy} (ok : ∀ s ∈ ss, s.ok)
include ok
end
end Ng
end
section
namespace Pk06
open PySem L2 Ng
def top (i : Nat) : PySem.Stmt := PySem.Challenge.pw_nightglass_k06_sayings_that_agree.main.body.getD i (.Pass ⟨0, 0, 0, 0⟩)
def G : Gs := ⟨["span", "common_span", "agree", "_law_draws", "_law_same", "_law_saying", "_law_left", "law"], [("BRIGHTEST", .int (9))], [], []⟩
theorem gc0 : G.csts[0]? = some (("BRIGHTEST", .int (9)) : Str × D) := rfl
/-! 0: span, slots 0=saying 1=word 2=number -/
def b0 : Ss := (.cons (.asg (.tp [1, 2]) (.var 0)) (.cons (.iff (.cmp .eq (.var 1) (.str "star")) (.cons (.ret (.tup (.cons (.var 2) (.cons (.var 2) .nil)))) .nil) .nil) (.cons (.iff (.cmp .eq (.var 1) (.str "under")) (.cons (.ret (.tup (.cons (.int 0) (.cons (.bin .sub (.var 2) (.int 1)) .nil)))) .nil) .nil) (.cons (.ret (.tup (.cons (.int 0) (.cons (.gc 0) .nil)))) .nil))))
/-! 1: common_span, slots 0=sayings 1=spans 2=least 3=greatest -/
def b1 : Ss := (.cons (.asc 1 (.comp (.nm 0) .sq (.cons (.var 0) .nil) .nil (.call 0 (.cons (.var 0) .nil)) ["saying"] [])) (.cons (.asg (.nm 2) (.mxd true (.comp (.tp [0, 1]) .sq (.cons (.var 1) .nil) .nil (.var 0) ["low", "high"] []) (.int 0))) (.cons (.asg (.nm 3) (.mxd false (.comp (.tp [0, 1]) .sq (.cons (.var 1) .nil) .nil (.var 1) ["low", "high"] []) (.gc 0))) (.cons (.ret (.tup (.cons (.var 2) (.cons (.var 3) .nil)))) .nil))))
/-! 2: agree, slots 0=one 1=other 2=least 3=greatest -/
def b2 : Ss := (.cons (.asg (.tp [2, 3]) (.call 1 (.cons (.lst (.cons (.var 0) (.cons (.var 1) .nil))) .nil))) (.cons (.ret (.cmp .le (.var 2) (.var 3))) .nil))
/-! 3: _law_draws, slots 0=_law_script 1=_law_at 2=_law_many 3=_law_cell 4=_law_seed 5=_law_row 6=_law_mark -/
def b3 : Ss := (.cons (.asg (.nm 3) (.bin .add (.bin .mul (.int 7) (.var 1)) (.int 1))) (.cons (.iff (.cmp .lt (.var 1) (.blt .len (.cons (.var 0) .nil))) (.cons (.asg (.nm 3) (.ix (.var 0) (.var 1))) .nil) (.cons (.iff (.cmp .gt (.blt .len (.cons (.var 0) .nil)) (.int 0)) (.cons (.asg (.nm 3) (.bin .add (.bin .add (.bin .mod (.ix (.var 0) (.bin .mod (.var 1) (.blt .len (.cons (.var 0) .nil)))) (.int 999983)) (.bin .mul (.bin .mul (.var 1) (.var 1)) (.int 97))) (.int 1))) .nil) .nil) .nil)) (.cons (.asg (.nm 4) (.bin .add (.bin .add (.bin .mod (.var 3) (.int 999983)) (.bin .mul (.int 31) (.var 1))) (.int 5))) (.cons (.asg (.nm 5) (.lst .nil)) (.cons (.iff (.cmp .ge (.var 3) (.bin .pow (.int 10) (.int 18))) (.cons (.whl (.and (.cmp .gt (.var 3) (.int 0)) (.cmp .lt (.blt .len (.cons (.var 5) .nil)) (.var 2))) (.cons (.ex (.app (.var 5) (.bin .mod (.var 3) (.int 1013)))) (.cons (.asg (.nm 3) (.bin .fdiv (.var 3) (.int 1013))) .nil))) .nil) .nil) (.cons (.whl (.cmp .lt (.blt .len (.cons (.var 5) .nil)) (.var 2)) (.cons (.asg (.nm 6) (.bin .add (.blt .len (.cons (.var 5) .nil)) (.int 1))) (.cons (.asg (.nm 4) (.bin .mod (.bin .add (.bin .add (.bin .mul (.var 4) (.int 48271)) (.bin .mul (.bin .mul (.var 6) (.var 6)) (.int 6133))) (.int 17)) (.int 2147483647))) (.cons (.ex (.app (.var 5) (.bin .mod (.bin .mod (.bin .mul (.bin .mod (.var 4) (.int 65521)) (.bin .add (.bin .mod (.bin .fdiv (.var 4) (.int 65521)) (.int 32749)) (.int 1))) (.int 1000003)) (.int 1013)))) .nil)))) (.cons (.ret (.var 5)) .nil)))))))
/-! 4: _law_same, slots 0=_law_found 1=_law_due 2=_law_k -/
def b4 : Ss := (.cons (.iff (.blt .isinst (.cons (.var 1) (.cons (.tup (.cons (.ty .tuple) (.cons (.ty .list) .nil))) .nil))) (.cons (.iff (.or (.cmp .ne (.blt .isinst (.cons (.var 1) (.cons (.ty .tuple) .nil))) (.blt .isinst (.cons (.var 0) (.cons (.ty .tuple) .nil)))) (.cmp .ne (.blt .isinst (.cons (.var 1) (.cons (.ty .list) .nil))) (.blt .isinst (.cons (.var 0) (.cons (.ty .list) .nil))))) (.cons (.ret (.bl false)) .nil) .nil) (.cons (.iff (.cmp .ne (.blt .len (.cons (.var 0) .nil)) (.blt .len (.cons (.var 1) .nil))) (.cons (.ret (.bl false)) .nil) .nil) (.cons (.forr (.nm 2) (.r1 (.blt .len (.cons (.var 1) .nil))) (.cons (.iff (.not (.call 4 (.cons (.ix (.var 0) (.var 2)) (.cons (.ix (.var 1) (.var 2)) .nil)))) (.cons (.ret (.bl false)) .nil) .nil) .nil)) (.cons (.ret (.bl true)) .nil)))) .nil) (.cons (.iff (.cmp .is (.var 1) .non) (.cons (.ret (.cmp .is (.var 0) .non)) .nil) .nil) (.cons (.iff (.or (.blt .isinst (.cons (.var 1) (.cons (.ty .bool) .nil))) (.blt .isinst (.cons (.var 0) (.cons (.ty .bool) .nil)))) (.cons (.ret (.and (.blt .isinst (.cons (.var 1) (.cons (.ty .bool) .nil))) (.and (.blt .isinst (.cons (.var 0) (.cons (.ty .bool) .nil))) (.cmp .eq (.var 0) (.var 1))))) .nil) .nil) (.cons (.iff (.blt .isinst (.cons (.var 1) (.cons (.ty .int) .nil))) (.cons (.ret (.and (.blt .isinst (.cons (.var 0) (.cons (.ty .int) .nil))) (.cmp .eq (.var 0) (.var 1)))) .nil) .nil) (.cons (.ret (.and (.blt .isinst (.cons (.var 0) (.cons (.ty .str) .nil))) (.cmp .eq (.var 0) (.var 1)))) .nil)))))
/-! 5: _law_saying, slots 0=_law_draw -/
def b5 : Ss := (.cons (.iff (.cmp .eq (.bin .mod (.var 0) (.int 19)) (.int 0)) (.cons (.ret (.tup (.cons (.str "unseen") (.cons (.int 0) .nil)))) .nil) .nil) (.cons (.iff (.cmp .lt (.bin .mod (.var 0) (.int 19)) (.int 10)) (.cons (.ret (.tup (.cons (.str "star") (.cons (.bin .mod (.var 0) (.int 19)) .nil)))) .nil) .nil) (.cons (.ret (.tup (.cons (.str "under") (.cons (.bin .sub (.bin .mod (.var 0) (.int 19)) (.int 9)) .nil)))) .nil)))
/-! 6: _law_left, slots 0=_law_saying_here -/
def b6 : Ss := (.cons (.iff (.cmp .eq (.ix (.var 0) (.int 0)) (.str "star")) (.cons (.ret (.lst (.cons (.ix (.var 0) (.int 1)) .nil))) .nil) .nil) (.cons (.iff (.cmp .eq (.ix (.var 0) (.int 0)) (.str "under")) (.cons (.ret (.lrg (.ix (.var 0) (.int 1)))) .nil) .nil) (.cons (.ret (.lrg (.int 10))) .nil)))
/-! 7: law, slots 0=_law_script 1=_law_d 2=_law_one 3=_law_other 4=_law_due 5=_law_bright -/
def b7 : Ss := (.cons (.asg (.nm 1) (.call 3 (.cons (.var 0) (.cons (.int 0) (.cons (.int 2) .nil))))) (.cons (.asg (.nm 2) (.call 5 (.cons (.ix (.var 1) (.int 0)) .nil))) (.cons (.asg (.nm 3) (.call 5 (.cons (.ix (.var 1) (.int 1)) .nil))) (.cons (.asg (.nm 4) (.bl false)) (.cons (.forr (.nm 5) (.sq (.call 6 (.cons (.var 2) .nil))) (.cons (.iff (.cmp .inn (.var 5) (.call 6 (.cons (.var 3) .nil))) (.cons (.asg (.nm 4) (.bl true)) .nil) .nil) .nil)) (.cons (.ret (.and (.call 4 (.cons (.call 2 (.cons (.var 2) (.cons (.var 3) .nil))) (.cons (.var 4) .nil))) (.call 4 (.cons (.call 2 (.cons (.var 3) (.cons (.var 2) .nil))) (.cons (.var 4) .nil))))) .nil))))))
def T : Nat → Option Fc
  | 0 => some ⟨1, 3, b0⟩
  | 1 => some ⟨1, 4, b1⟩
  | 2 => some ⟨2, 4, b2⟩
  | 3 => some ⟨3, 7, b3⟩
  | 4 => some ⟨2, 3, b4⟩
  | 5 => some ⟨1, 1, b5⟩
  | 6 => some ⟨1, 1, b6⟩
  | 7 => some ⟨1, 6, b7⟩
  | _ => none
theorem sc0 : FnScope ["saying", "word", "number"] ["saying"] (defScope (top 2)) := ⟨rfl, rfl, rfl, by decide +kernel, rfl, by decide +kernel, by decide +kernel⟩
theorem ck0 : chkSs ["saying", "word", "number"] (defScope (top 2)) G b0 (defBody (top 2)) = true := by decide +kernel
theorem sc1 : FnScope ["sayings", "spans", "least", "greatest"] ["sayings"] (defScope (top 3)) := ⟨rfl, rfl, rfl, by decide +kernel, rfl, by decide +kernel, by decide +kernel⟩
theorem ck1 : chkSs ["sayings", "spans", "least", "greatest"] (defScope (top 3)) G b1 (defBody (top 3)) = true := by decide +kernel
theorem sc2 : FnScope ["one", "other", "least", "greatest"] ["one", "other"] (defScope (top 4)) := ⟨rfl, rfl, rfl, by decide +kernel, rfl, by decide +kernel, by decide +kernel⟩
theorem ck2 : chkSs ["one", "other", "least", "greatest"] (defScope (top 4)) G b2 (defBody (top 4)) = true := by decide +kernel
theorem sc3 : FnScope ["_law_script", "_law_at", "_law_many", "_law_cell", "_law_seed", "_law_row", "_law_mark"] ["_law_script", "_law_at", "_law_many"] (defScope (top 6)) := ⟨rfl, rfl, rfl, by decide +kernel, rfl, by decide +kernel, by decide +kernel⟩
theorem ck3 : chkSs ["_law_script", "_law_at", "_law_many", "_law_cell", "_law_seed", "_law_row", "_law_mark"] (defScope (top 6)) G b3 (defBody (top 6)) = true := by decide +kernel
theorem sc4 : FnScope ["_law_found", "_law_due", "_law_k"] ["_law_found", "_law_due"] (defScope (top 7)) := ⟨rfl, rfl, rfl, by decide +kernel, rfl, by decide +kernel, by decide +kernel⟩
theorem ck4 : chkSs ["_law_found", "_law_due", "_law_k"] (defScope (top 7)) G b4 (defBody (top 7)) = true := by decide +kernel
theorem sc5 : FnScope ["_law_draw"] ["_law_draw"] (defScope (top 8)) := ⟨rfl, rfl, rfl, by decide +kernel, rfl, by decide +kernel, by decide +kernel⟩
theorem ck5 : chkSs ["_law_draw"] (defScope (top 8)) G b5 (defBody (top 8)) = true := by decide +kernel
theorem sc6 : FnScope ["_law_saying_here"] ["_law_saying_here"] (defScope (top 9)) := ⟨rfl, rfl, rfl, by decide +kernel, rfl, by decide +kernel, by decide +kernel⟩
theorem ck6 : chkSs ["_law_saying_here"] (defScope (top 9)) G b6 (defBody (top 9)) = true := by decide +kernel
theorem sc7 : FnScope ["_law_script", "_law_d", "_law_one", "_law_other", "_law_due", "_law_bright"] ["_law_script"] (defScope (top 10)) := ⟨rfl, rfl, rfl, by decide +kernel, rfl, by decide +kernel, by decide +kernel⟩
theorem ck7 : chkSs ["_law_script", "_law_d", "_law_one", "_law_other", "_law_due", "_law_bright"] (defScope (top 10)) G b7 (defBody (top 10)) = true := by decide +kernel
set_option maxHeartbeats 0 in
theorem all_mk {K : PySem.W.Frag} {h : Heap} {mg : Str → Option Value} {fa : Addr} (X : K.In h) (Gn : h.Ns mainGlobals mg) (hfa : mg "law" = some (.ref fa))
    {f0 : Addr} {oc0 kV0 dc0 pm0 cd0 ct0 : Value} {od0 an0 : Option Addr} {sl0 : Array (Option Value)} {f1 : Addr} {oc1 kV1 dc1 pm1 cd1 ct1 : Value} {od1 an1 : Option Addr} {sl1 : Array (Option Value)} {f2 : Addr} {oc2 kV2 dc2 pm2 cd2 ct2 : Value} {od2 an2 : Option Addr} {sl2 : Array (Option Value)} {f3 : Addr} {oc3 kV3 dc3 pm3 cd3 ct3 : Value} {od3 an3 : Option Addr} {sl3 : Array (Option Value)} {f4 : Addr} {oc4 kV4 dc4 pm4 cd4 ct4 : Value} {od4 an4 : Option Addr} {sl4 : Array (Option Value)} {f5 : Addr} {oc5 kV5 dc5 pm5 cd5 ct5 : Value} {od5 an5 : Option Addr} {sl5 : Array (Option Value)} {f6 : Addr} {oc6 kV6 dc6 pm6 cd6 ct6 : Value} {od6 an6 : Option Addr} {sl6 : Array (Option Value)} {f7 : Addr} {oc7 kV7 dc7 pm7 cd7 ct7 : Value} {od7 an7 : Option Addr} {sl7 : Array (Option Value)} {u0 : Tok}
    (fa0 : PySem.W.nsIn K mainGlobals "span" = some (some (.ref f0)))
    (fl0 : K.lookup f0 = some ⟨oc0, od0, .func (PySem.W.fnOf "span" "span" (defArgs (top 2)) (defBody (top 2)) (defScope (top 2)) .none kV0 dc0 pm0 an0 cd0 ct0), sl0⟩)
    (fc0 : PySem.W.codeIn K cd0 "span" = true)
    (fk0 : PySem.W.keepIn K (.ref f0) = true)
    (fa1 : PySem.W.nsIn K mainGlobals "common_span" = some (some (.ref f1)))
    (fl1 : K.lookup f1 = some ⟨oc1, od1, .func (PySem.W.fnOf "common_span" "common_span" (defArgs (top 3)) (defBody (top 3)) (defScope (top 3)) .none kV1 dc1 pm1 an1 cd1 ct1), sl1⟩)
    (fc1 : PySem.W.codeIn K cd1 "common_span" = true)
    (fk1 : PySem.W.keepIn K (.ref f1) = true)
    (fa2 : PySem.W.nsIn K mainGlobals "agree" = some (some (.ref f2)))
    (fl2 : K.lookup f2 = some ⟨oc2, od2, .func (PySem.W.fnOf "agree" "agree" (defArgs (top 4)) (defBody (top 4)) (defScope (top 4)) .none kV2 dc2 pm2 an2 cd2 ct2), sl2⟩)
    (fc2 : PySem.W.codeIn K cd2 "agree" = true)
    (fk2 : PySem.W.keepIn K (.ref f2) = true)
    (fa3 : PySem.W.nsIn K mainGlobals "_law_draws" = some (some (.ref f3)))
    (fl3 : K.lookup f3 = some ⟨oc3, od3, .func (PySem.W.fnOf "_law_draws" "_law_draws" (defArgs (top 6)) (defBody (top 6)) (defScope (top 6)) .none kV3 dc3 pm3 an3 cd3 ct3), sl3⟩)
    (fc3 : PySem.W.codeIn K cd3 "_law_draws" = true)
    (fk3 : PySem.W.keepIn K (.ref f3) = true)
    (fa4 : PySem.W.nsIn K mainGlobals "_law_same" = some (some (.ref f4)))
    (fl4 : K.lookup f4 = some ⟨oc4, od4, .func (PySem.W.fnOf "_law_same" "_law_same" (defArgs (top 7)) (defBody (top 7)) (defScope (top 7)) .none kV4 dc4 pm4 an4 cd4 ct4), sl4⟩)
    (fc4 : PySem.W.codeIn K cd4 "_law_same" = true)
    (fk4 : PySem.W.keepIn K (.ref f4) = true)
    (fa5 : PySem.W.nsIn K mainGlobals "_law_saying" = some (some (.ref f5)))
    (fl5 : K.lookup f5 = some ⟨oc5, od5, .func (PySem.W.fnOf "_law_saying" "_law_saying" (defArgs (top 8)) (defBody (top 8)) (defScope (top 8)) .none kV5 dc5 pm5 an5 cd5 ct5), sl5⟩)
    (fc5 : PySem.W.codeIn K cd5 "_law_saying" = true)
    (fk5 : PySem.W.keepIn K (.ref f5) = true)
    (fa6 : PySem.W.nsIn K mainGlobals "_law_left" = some (some (.ref f6)))
    (fl6 : K.lookup f6 = some ⟨oc6, od6, .func (PySem.W.fnOf "_law_left" "_law_left" (defArgs (top 9)) (defBody (top 9)) (defScope (top 9)) .none kV6 dc6 pm6 an6 cd6 ct6), sl6⟩)
    (fc6 : PySem.W.codeIn K cd6 "_law_left" = true)
    (fk6 : PySem.W.keepIn K (.ref f6) = true)
    (fa7 : PySem.W.nsIn K mainGlobals "law" = some (some (.ref f7)))
    (fl7 : K.lookup f7 = some ⟨oc7, od7, .func (PySem.W.fnOf "law" "law" (defArgs (top 10)) (defBody (top 10)) (defScope (top 10)) .none kV7 dc7 pm7 an7 cd7 ct7), sl7⟩)
    (fc7 : PySem.W.codeIn K cd7 "law" = true)
    (fk7 : PySem.W.keepIn K (.ref f7) = true)
    (ga0 : PySem.W.nsIn K mainGlobals "BRIGHTEST" = some (some (.int (9) u0)))
    (z_len : PySem.W.nsIn K mainGlobals "len" = some none)
    (z_isinstance : PySem.W.nsIn K mainGlobals "isinstance" = some none)
    (z_int : PySem.W.nsIn K mainGlobals "int" = some none)
    (z_list : PySem.W.nsIn K mainGlobals "list" = some none)
    (z_bool : PySem.W.nsIn K mainGlobals "bool" = some none)
    (z_str : PySem.W.nsIn K mainGlobals "str" = some none)
    (z_tuple : PySem.W.nsIn K mainGlobals "tuple" = some none)
    (z_range : PySem.W.nsIn K mainGlobals "range" = some none)
    (z_max : PySem.W.nsIn K mainGlobals "max" = some none)
    (z_min : PySem.W.nsIn K mainGlobals "min" = some none)
    (z_ValueError : PySem.W.nsIn K mainGlobals "ValueError" = some none)
    : ∃ ca : Nat → Addr, PrOk K mg G ca T ∧ ∃ fd : FuncData, (∀ (s : Shared) (u : Value), BindsTo s fd ⟨[u], []⟩ [("_law_script", u)]) ∧ ∃ c st N qual, T 7 = some c ∧ Fun K "law" qual st fa fd ∧ FnScope N ["_law_script"] (defScope st) ∧ 1 = c.np ∧ N.length = c.ns ∧ chkSs N (defScope st) G c.body (defBody st) = true := by
  have e := hfa.symm.trans (PySem.W.mg_of X Gn fa7)
  cases e
  have F0 := fun_mk (st := top 2) fl0 fc0 fk0
  have B0 := F0.binds (ps := ["saying"]) fun _ _ _ _ _ _ us hl => match us, hl with | [_], _ => rfl
  have F1 := fun_mk (st := top 3) fl1 fc1 fk1
  have B1 := F1.binds (ps := ["sayings"]) fun _ _ _ _ _ _ us hl => match us, hl with | [_], _ => rfl
  have F2 := fun_mk (st := top 4) fl2 fc2 fk2
  have B2 := F2.binds (ps := ["one", "other"]) fun _ _ _ _ _ _ us hl => match us, hl with | [_, _], _ => rfl
  have F3 := fun_mk (st := top 6) fl3 fc3 fk3
  have B3 := F3.binds (ps := ["_law_script", "_law_at", "_law_many"]) fun _ _ _ _ _ _ us hl => match us, hl with | [_, _, _], _ => rfl
  have F4 := fun_mk (st := top 7) fl4 fc4 fk4
  have B4 := F4.binds (ps := ["_law_found", "_law_due"]) fun _ _ _ _ _ _ us hl => match us, hl with | [_, _], _ => rfl
  have F5 := fun_mk (st := top 8) fl5 fc5 fk5
  have B5 := F5.binds (ps := ["_law_draw"]) fun _ _ _ _ _ _ us hl => match us, hl with | [_], _ => rfl
  have F6 := fun_mk (st := top 9) fl6 fc6 fk6
  have B6 := F6.binds (ps := ["_law_saying_here"]) fun _ _ _ _ _ _ us hl => match us, hl with | [_], _ => rfl
  have F7 := fun_mk (st := top 10) fl7 fc7 fk7
  have B7 := F7.binds (ps := ["_law_script"]) fun _ _ _ _ _ _ us hl => match us, hl with | [_], _ => rfl
  refine ⟨fun i => ([] : List Addr).getD i 0, ⟨fun f x hf => ?_, fun g x d hg => ?_, fun b => ?_, fun t => ?_, PySem.W.mg_none_of X Gn z_range, fun c x hx => ?_, fun q hq => ?_, PySem.W.mg_none_of X Gn z_ValueError⟩, ?_⟩
  · match f, hf with
    | 0, hf => cases hf; exact ⟨_, rfl, _, _, _, _, _, _, F0, sc0, rfl, rfl, B0, PySem.W.mg_of X Gn fa0, ck0⟩
    | 1, hf => cases hf; exact ⟨_, rfl, _, _, _, _, _, _, F1, sc1, rfl, rfl, B1, PySem.W.mg_of X Gn fa1, ck1⟩
    | 2, hf => cases hf; exact ⟨_, rfl, _, _, _, _, _, _, F2, sc2, rfl, rfl, B2, PySem.W.mg_of X Gn fa2, ck2⟩
    | 3, hf => cases hf; exact ⟨_, rfl, _, _, _, _, _, _, F3, sc3, rfl, rfl, B3, PySem.W.mg_of X Gn fa3, ck3⟩
    | 4, hf => cases hf; exact ⟨_, rfl, _, _, _, _, _, _, F4, sc4, rfl, rfl, B4, PySem.W.mg_of X Gn fa4, ck4⟩
    | 5, hf => cases hf; exact ⟨_, rfl, _, _, _, _, _, _, F5, sc5, rfl, rfl, B5, PySem.W.mg_of X Gn fa5, ck5⟩
    | 6, hf => cases hf; exact ⟨_, rfl, _, _, _, _, _, _, F6, sc6, rfl, rfl, B6, PySem.W.mg_of X Gn fa6, ck6⟩
    | 7, hf => cases hf; exact ⟨_, rfl, _, _, _, _, _, _, F7, sc7, rfl, rfl, B7, PySem.W.mg_of X Gn fa7, ck7⟩
    | _ + 8, hf => cases hf
  · match g, hg with
    | 0, hg => cases hg; exact ⟨V.int (9), _, PySem.W.mg_of X Gn ga0, ⟨_, rfl⟩, fun m H => RD.int _⟩
    | _ + 1, hg => cases hg
  · cases b
    · exact PySem.W.mg_none_of X Gn z_len
    · exact PySem.W.mg_none_of X Gn z_isinstance
    · exact PySem.W.mg_none_of X Gn z_int
    · exact PySem.W.mg_none_of X Gn z_list
    · exact PySem.W.mg_none_of X Gn z_max
    · exact PySem.W.mg_none_of X Gn z_min
  · cases t
    · exact PySem.W.mg_none_of X Gn z_int
    · exact PySem.W.mg_none_of X Gn z_bool
    · exact PySem.W.mg_none_of X Gn z_str
    · exact PySem.W.mg_none_of X Gn z_tuple
    · exact PySem.W.mg_none_of X Gn z_list
  · match c, hx with
    | _ + 0, hx => cases hx
  · simp only [G, List.mem_cons, List.not_mem_nil, or_false] at hq
  · exact ⟨_, fun s v => .of_eq rfl, _, _, _, _, rfl, F7, sc7, rfl, rfl, ck7⟩
end Pk06

namespace Pk06
open PySem L2 Ng
def W : Nat := 100000
theorem span_ok (n : Nat) (s : Sy) (h : Hh) : callD G T W (n + 1) 0 [s.d] h = .ok (spD2 s) h := by
  rw [call_eq (c := ⟨1, 3, b0⟩) rfl rfl]
  cases s <;> simp [b0, Sy.d, spD2, Sy.lo, Sy.hi, gc0]

theorem cspan_ok (n : Nat) (ss : List Sy) (k : Nat) (h : Hh) (hl : lstAt h k = some (ss.map Sy.d)) (hm : ss.length ≤ 1000) : ∃ g, callD G T W (n + 2) 1 [.ref k] h = .ok (.tup [.int (clo ss), .int (chi ss)]) (h ++ g) := by
  rw [call_eq (c := ⟨1, 4, b1⟩) rfl rfl]
  generalize hcl : callD G T W (n + 1) = cl
  have hs : ∀ (s : Sy) (h : Hh), cl 0 [s.d] h = .ok (spD2 s) h := fun s h => by rw [← hcl]; exact span_ok n s h
  obtain ⟨g1, e1⟩ := evC_map (G := G) (cl := cl) (t := .nm 0) (it := .cons (.var 0) .nil) (e := .call 0 (.cons (.var 0) .nil)) (N := ["saying"]) (cap := []) (r := [some (.ref k), none, none, none]) (h := h) (h1 := h) (l := ss) Sy.d (fun r => ∃ d, r = [d]) spD2 (by simp) hl hm ⟨_, rfl⟩
    (by rintro s _ r h ⟨d, rfl⟩; exact ⟨_, rfl, ⟨_, rfl⟩, by simp [hs]⟩)
  have x1 := lstAt_mid h g1 (ss.map spD2)
  generalize hH1 : h ++ O.lst (ss.map spD2) :: g1 = H1 at e1 x1
  obtain ⟨g2, e2⟩ := evC_map (G := G) (cl := cl) (t := .tp [0, 1]) (it := .cons (.var 1) .nil) (e := .var 0) (N := ["low", "high"]) (cap := []) (r := [some (.ref k), some (.ref h.length), none, none]) (h := H1) (h1 := H1) (l := ss) spD2 (fun r => ∃ a b, r = [a, b]) (fun s => .int s.lo) (by simp) x1 hm ⟨_, _, rfl⟩
    (by rintro s _ r h ⟨a, b, rfl⟩; exact ⟨_, rfl, ⟨_, _, rfl⟩, by simp [spD2]⟩)
  have x2 : lstAt (H1 ++ O.lst (ss.map fun s => .int s.lo) :: g2) h.length = some (ss.map spD2) := lstAt_app _ _ x1
  have y2 := lstAt_mid H1 g2 (ss.map fun s => .int s.lo)
  generalize hH2 : H1 ++ O.lst (ss.map fun s => .int s.lo) :: g2 = H2 at e2 x2 y2
  obtain ⟨g3, e3⟩ := evC_map (G := G) (cl := cl) (t := .tp [0, 1]) (it := .cons (.var 1) .nil) (e := .var 1) (N := ["low", "high"]) (cap := []) (r := [some (.ref k), some (.ref h.length), some (.int (clo ss)), none]) (h := H2) (h1 := H2) (l := ss) spD2 (fun r => ∃ a b, r = [a, b]) (fun s => .int s.hi) (by simp) x2 hm ⟨_, _, rfl⟩
    (by rintro s _ r h ⟨a, b, rfl⟩; exact ⟨_, rfl, ⟨_, _, rfl⟩, by simp [spD2]⟩)
  have y3 := lstAt_mid H2 g3 (ss.map fun s => .int s.hi)
  generalize hH3 : H2 ++ O.lst (ss.map fun s => .int s.hi) :: g3 = H3 at e3 y3
  have m2 := bestD_ok (L := ss.map Sy.lo) true 0 (by rw [y2, List.map_map]; rfl)
  have m3 := bestD_ok (L := ss.map Sy.hi) false 9 (by rw [y3, List.map_map]; rfl)
  refine ⟨O.lst (ss.map spD2) :: g1 ++ (O.lst (ss.map fun s => .int s.lo) :: g2) ++ (O.lst (ss.map fun s => .int s.hi) :: g3), ?_⟩
  rw [show h ++ (O.lst (ss.map spD2) :: g1 ++ (O.lst (ss.map fun s => .int s.lo) :: g2) ++ (O.lst (ss.map fun s => .int s.hi) :: g3)) = H3 by rw [← hH3, ← hH2, ← hH1]; simp]
  show (xss G cl W b1 [some (.ref k), none, none, none] h).bind endD = _
  rw [b1, xssNx (r' := [some (.ref k), some (.ref h.length), none, none]) (h' := H1) (by rw [xsAsc, e1]; rfl),
    xssNx (r' := [some (.ref k), some (.ref h.length), some (.int (clo ss)), none]) (h' := H2) (by rw [xsAsg, evMxd, e2]; simp [m2]; rfl),
    xssNx (r' := [some (.ref k), some (.ref h.length), some (.int (clo ss)), some (.int (chi ss))]) (h' := H3) (by rw [xsAsg, evMxd, e3]; simp [gc0, m3]; rfl)]
  simp

theorem agree_ok (n : Nat) (a b : Sy) (h : Hh) : ∃ g, callD G T W (n + 3) 2 [a.d, b.d] h = .ok (.bl (decide (clo [a, b] ≤ chi [a, b]))) (h ++ g) := by
  rw [call_eq (c := ⟨2, 4, b2⟩) rfl rfl]
  obtain ⟨g, e⟩ := cspan_ok n [a, b] h.length (h ++ [.lst [a.d, b.d]]) (lstAt_last _ _) (by simp)
  generalize callD G T W (n + 2) = cl at e
  refine ⟨[.lst [a.d, b.d]] ++ g, ?_⟩
  rw [← List.append_assoc]
  simp [b2, e]

theorem draws (n : Nat) (ns : List Int) (at' : Int) (M : Nat) (hM : M ≤ 1000) (h : Hh) (h0 : 0 ≤ at') (h1 : at' < 100000) (hs : lstAt h 0 = some (ns.map D.int)) : ∃ row : List Int, row.length = M ∧ InR row ∧ callD G T W (n + 1) 3 [.ref 0, .int at', .int M] h = .ok (.ref h.length) (h ++ [.lst (row.map D.int)]) := by
  obtain ⟨row, r1, r2, e⟩ := draws_ok G (callD G T W n) W h 0 ns at' M hM h0 h1 hs (by decide)
  refine ⟨row, r1, r2, ?_⟩
  rw [call_eq (c := ⟨3, 7, b3⟩) rfl rfl]
  have e' : xss G (callD G T W n) W b3 _ h = _ := e
  show (xss G (callD G T W n) W b3 [some (.ref 0), some (.int at'), some (.int M), none, none, none, none] h).bind endD = _
  rw [e']
  rfl

abbrev sameL : Ss := (.cons (.iff (.not (.call 4 (.cons (.ix (.var 0) (.var 2)) (.cons (.ix (.var 1) (.var 2)) .nil)))) (.cons (.ret (.bl false)) .nil) .nil) .nil)
theorem same_seq {cl : Cl} (x y : D) (l : List D) (h : Hh) (hl : l.length ≤ 1000) (ix : ∀ k : Nat, ∀ d, l[k]? = some d → ixD x (.int k) h = .ok d h ∧ ixD y (.int k) h = .ok d h) (hs : ∀ d ∈ l, cl 4 [d, d] h = .ok (.bl true) h)
    (ny : bltD .len [y] h = .ok (.int l.length) h) :
    ∃ r', xs G cl W (.forr (.nm 2) (.r1 (.blt .len (.cons (.var 1) .nil))) sameL) [some x, some y, none] h = .ok (.nx r') h := by
  obtain ⟨r', el, _⟩ := forS_id (t := .nm 2) (body := xss G cl W sameL) (fun r => ∃ d2, r = [some x, some y, d2]) h (rngD 0 l.length)
    (by
      rintro d hd r ⟨d2, rfl⟩
      obtain ⟨j, hj, rfl⟩ := rngD_mem hd
      have ej : l[j]? = some l[j] := List.getElem?_eq_getElem hj
      obtain ⟨i1, i2⟩ := ix j _ ej
      have es := hs l[j] (List.getElem_mem hj)
      exact ⟨_, _, rfl, by simp [sameL, i1, i2, es]; rfl, _, rfl⟩)
    [some x, some y, none] ⟨none, rfl⟩
  exact ⟨r', xsFor_r1 (j := l.length) (h1 := h) (by simp [ny]) (okR_nat (by omega)) el⟩
theorem same_refl : ∀ (k : Nat) (d : D), pd k d = true → ∀ (n : Nat) (h : Hh), callD G T W (k + n + 1) 4 [d, d] h = .ok (.bl true) h := by
  intro k
  induction k with
  | zero =>
    intro d hd n h
    rw [call_eq (c := ⟨2, 3, b4⟩) rfl rfl]
    cases d <;> first | (simp [pd] at hd; done) | simp [b4]
  | succ k ih =>
    intro d hd n h
    rw [call_eq (c := ⟨2, 3, b4⟩) rfl rfl]
    cases d <;> first | (simp [pd] at hd; done) | (simp [b4]; done) | skip
    rename_i l
    simp only [pd, Bool.and_eq_true, decide_eq_true_eq] at hd
    obtain ⟨h1, h2⟩ := hd
    obtain ⟨r', ef⟩ := same_seq (cl := callD G T W (k + 1 + n)) (.tup l) (.tup l) l h h1 (fun j d ej => by
        have ea : atI l (j : Int) = some d := atI_nat ej
        exact ⟨by rw [Ng.iTup, ea], by rw [Ng.iTup, ea]⟩) (fun d hd => by
          have := ih d (by rw [List.all_eq_true] at h2; exact h2 _ hd) n h
          rwa [show k + n + 1 = k + 1 + n by omega] at this) (by simp)
    show (xss G (callD G T W (k + 1 + n)) W b4 [some (.tup l), some (.tup l), none] h).bind endD = _
    rw [b4, xssRt (d := .bl true) (h' := h) (by
      rw [xsIff, show ev G (callD G T W (k + 1 + n)) (.blt .isinst (.cons (.var 1) (.cons (.tup (.cons (.ty .tuple) (.cons (.ty .list) .nil))) .nil))) [some (.tup l), some (.tup l), none] h = .ok (.bl true) h from by simp, nxOk, bindOk]
      show xss G _ W _ _ h = _
      rw [xssNx (r' := [some (.tup l), some (.tup l), none]) (h' := h) (by simp), xssNx (r' := [some (.tup l), some (.tup l), none]) (h' := h) (by simp), xssNx ef]
      simp)]
    rfl
theorem same_lst (k : Nat) (a b : Nat) (l : List D) (n : Nat) (h : Hh) (ha : lstAt h a = some l) (hb : lstAt h b = some l) (h1 : l.length ≤ 1000) (h2 : l.all (pd k) = true) : callD G T W (k + 1 + n + 1) 4 [.ref a, .ref b] h = .ok (.bl true) h := by
  rw [call_eq (c := ⟨2, 3, b4⟩) rfl rfl]
  obtain ⟨r', ef⟩ := same_seq (cl := callD G T W (k + 1 + n)) (.ref a) (.ref b) l h h1 (fun j d ej => by
      have ea : atI l (j : Int) = some d := atI_nat ej
      exact ⟨by rw [iRef h _ ha, ea], by rw [iRef h _ hb, ea]⟩) (fun d hd => by
        have := same_refl k d (by rw [List.all_eq_true] at h2; exact h2 _ hd) n h
        rwa [show k + n + 1 = k + 1 + n by omega] at this) (by rw [bLen, sRef, hb])
  have t1 := isLstTL h hb
  have t2 := isLstT h ha
  have t3 := isLstT h hb
  have t4 := isLstL h ha
  have t5 := isLstL h hb
  show (xss G (callD G T W (k + 1 + n)) W b4 [some (.ref a), some (.ref b), none] h).bind endD = _
  rw [b4, xssRt (d := .bl true) (h' := h) (by
    rw [xsIff, show ev G (callD G T W (k + 1 + n)) (.blt .isinst (.cons (.var 1) (.cons (.tup (.cons (.ty .tuple) (.cons (.ty .list) .nil))) .nil))) [some (.ref a), some (.ref b), none] h = .ok (.bl true) h from by simp [t1], nxOk, bindOk]
    show xss G _ W _ _ h = _
    rw [xssNx (r' := [some (.ref a), some (.ref b), none]) (h' := h) (by simp [t2, t3, t4, t5]), xssNx (r' := [some (.ref a), some (.ref b), none]) (h' := h) (by simp [ha, hb]), xssNx ef]
    simp)]
  rfl

theorem saying_ok (n : Nat) (v : Int) (h : Hh) : callD G T W (n + 1) 5 [.int v] h = .ok (syOf v).d h := by
  have q : ∀ x : Int, binD .mod (.int x) (.int 19) h = .ok (.int (x % 19)) h := fun x => bMod h (by omega)
  rw [call_eq (c := ⟨1, 1, b5⟩) rfl rfl]
  by_cases h1 : v % 19 = 0
  · simp [b5, q, h1, syOf, Sy.d]
  · by_cases h2 : v % 19 < 10
    · simp [b5, q, h1, h2, syOf, Sy.d]
    · simp [b5, q, h1, h2, syOf, Sy.d]

theorem left_ok (n : Nat) (s : Sy) (hs : s.ok) (h : Hh) : callD G T W (n + 1) 6 [s.d] h = .ok (.ref h.length) (h ++ [.lst (s.left.map D.int)]) := by
  rw [call_eq (c := ⟨1, 1, b6⟩) rfl rfl]
  cases s with
  | un =>
    have e := lrg_ok 10 h (by omega) (by omega)
    simp [b6, Sy.d, Sy.left, atI, ixN, e, rngI_map]
  | st k => simp [b6, Sy.d, Sy.left, atI, ixN]
  | ud k =>
    have e := lrg_ok k h (by have := hs.1; omega) (by have := hs.2; omega)
    simp [b6, Sy.d, Sy.left, atI, ixN, e, rngI_map]


structure Cs (cl : Cl) : Prop where
  draws : ∀ (ns : List Int) (at' : Int) (M : Nat) (hM : M ≤ 1000) (h : Hh), 0 ≤ at' → at' < 100000 → lstAt h 0 = some (ns.map D.int) → ∃ row : List Int, row.length = M ∧ InR row ∧ cl 3 [.ref 0, .int at', .int M] h = .ok (.ref h.length) (h ++ [.lst (row.map D.int)])
  saying : ∀ (v : Int) (h : Hh), cl 5 [.int v] h = .ok (syOf v).d h
  left : ∀ (s : Sy) (h : Hh), s.ok → cl 6 [s.d] h = .ok (.ref h.length) (h ++ [.lst (s.left.map D.int)])
  agree : ∀ (a b : Sy) (h : Hh), ∃ g, cl 2 [a.d, b.d] h = .ok (.bl (decide (clo [a, b] ≤ chi [a, b]))) (h ++ g)
  same : ∀ (b : Bool) (h : Hh), cl 4 [.bl b, .bl b] h = .ok (.bl true) h
theorem csAll : Cs (callD G T W 99) where
  draws := fun ns at' M hM h h0 h1 hs => draws 98 ns at' M hM h h0 h1 hs
  saying := fun v h => saying_ok 98 v h
  left := fun s h hs => left_ok 98 s hs h
  agree := fun a b h => agree_ok 96 a b h
  same := fun b h => same_refl 0 (.bl b) rfl 98 h
abbrev loopB : Ss := (.cons (.iff (.cmp .inn (.var 5) (.call 6 (.cons (.var 3) .nil))) (.cons (.asg (.nm 4) (.bl true)) .nil) .nil) .nil)
theorem any_take {l : List Int} {i : Nat} {x : Int} (p : Int → Bool) (e : l[i]? = some x) : (l.take (i + 1)).any p = ((l.take i).any p || p x) := by
  rw [List.take_succ, e]
  simp
theorem run' {cl : Cl} (C : Cs cl) (ns : List Int) (hn : ns.length ≤ 63) : ∃ h', (xss G cl W b7 [some (.ref 0), none, none, none, none, none] [O.ro (List.map D.int ns)]).bind endD = .ok (.bl true) h' := by
  obtain ⟨row, hl, hr, e⟩ := C.draws ns 0 2 (by decide) [.ro (ns.map D.int)] (by omega) (by omega) rfl
  have e' : cl 3 [D.ref 0, D.int 0, D.int 2] [.ro (ns.map D.int)] = _ := e
  match row, hl with
  | [a0, a1], _ =>
    generalize hH1 : ([.ro (ns.map D.int)] ++ [.lst ([a0, a1].map D.int)] : Hh) = H1 at e'
    have hd : lstAt H1 1 = some ([a0, a1].map D.int) := by rw [← hH1]; rfl
    have o1 := syOf_ok a0
    have o2 := syOf_ok a1
    have s1 := C.saying a0 H1
    have s2 := C.saying a1 H1
    generalize syOf a0 = a at o1 s1
    generalize syOf a1 = b at o2 s2
    have l1 := C.left a H1 o1
    have hL : lstAt (H1 ++ [.lst (a.left.map D.int)]) H1.length = some (a.left.map D.int) := lstAt_last _ _
    generalize hH2 : H1 ++ [O.lst (a.left.map D.int)] = H2 at l1 hL
    have hz : (a.left.map D.int).length < 100000 := by
      have := Sy.mem o1
      simp only [all19, List.mem_cons, List.not_mem_nil, or_false] at this
      rcases this with rfl | rfl | rfl | rfl | rfl | rfl | rfl | rfl | rfl | rfl | rfl | rfl | rfl | rfl | rfl | rfl | rfl | rfl | rfl <;> decide
    rcases forI_gen (t := .nm 5) (body := xss G cl W loopB) (n := H1.length) (l := a.left.map D.int)
      (fun i r h => lstAt h H1.length = some (a.left.map D.int) ∧ ∃ d5, r = [some (.ref 0), some (.ref 1), some a.d, some b.d, some (.bl ((a.left.take i).any fun x => b.left.any (· == x))), d5]) (fun _ _ => False) (fun i r h q => q.1)
      (by
        rintro i d hd r h ⟨hLL, d5, rfl⟩
        rw [List.getElem?_map] at hd
        cases hx : a.left[i]? with
        | none => rw [hx] at hd; cases hd
        | some x =>
          rw [hx] at hd; cases hd
          refine ⟨_, rfl, .inl ?_⟩
          have lb := C.left b h o2
          have ci := cInn (h := h ++ [.lst (b.left.map D.int)]) (n := h.length) (L := b.left) x (lstAt_last _ _)
          rw [any_take _ hx]
          cases hq : b.left.any (· == x) with
          | true =>
            rw [hq] at ci
            refine ⟨_, h ++ [.lst (b.left.map D.int)], by simp [loopB, lb, ci]; rfl, lstAt_app _ _ hLL, some (.int x), by simp⟩
          | false =>
            rw [hq] at ci
            refine ⟨_, h ++ [.lst (b.left.map D.int)], by simp [loopB, lb, ci]; rfl, lstAt_app _ _ hLL, some (.int x), by simp⟩)
      W 0 [some (.ref 0), some (.ref 1), some a.d, some b.d, some (.bl false), none] H2 ⟨hL, none, by simp⟩ (Nat.zero_le _) (by unfold W; omega) with ⟨r', H3, ef, _, d5, rfl⟩ | ⟨_, _, _, hf⟩
    · rw [List.length_map, List.take_of_length_le (Nat.le_refl _)] at ef
      obtain ⟨q1, q2⟩ := agree2 a (Sy.mem o1) b (Sy.mem o2)
      generalize a.left.any (fun x => b.left.any (· == x)) = due at ef q1 q2
      obtain ⟨g1, ag1⟩ := C.agree a b H3
      obtain ⟨g2, ag2⟩ := C.agree b a (H3 ++ g1)
      rw [q1] at ag1
      rw [q2] at ag2
      have sm := C.same due
      refine ⟨H3 ++ g1 ++ g2, ?_⟩
      rw [b7, xssNx (r' := [some (.ref 0), some (.ref 1), none, none, none, none]) (h' := H1) (by simp [e']),
        xssNx (r' := [some (.ref 0), some (.ref 1), some a.d, none, none, none]) (h' := H1) (by simp [iRef _ _ hd, atI, ixN, s1]),
        xssNx (r' := [some (.ref 0), some (.ref 1), some a.d, some b.d, none, none]) (h' := H1) (by simp [iRef _ _ hd, atI, ixN, s2]),
        xssNx (r' := [some (.ref 0), some (.ref 1), some a.d, some b.d, some (.bl false), none]) (h' := H1) (by simp),
        xssNx (r' := [some (.ref 0), some (.ref 1), some a.d, some b.d, some (.bl due), d5]) (h' := H3) (by rw [xsForS]; simp only [evCall, evsCons, evsNil, evVar, List.getElem?_cons_succ, ge0, bindOk, l1, nxOk, forDR]; exact ef)]
      simp [ag1, ag2, sm]
    · exact hf.elim
theorem run (ns : List Int) (hn : ns.length ≤ 63) : ∃ h', callD G T W (99 + 1) 7 [.ref 0] [.ro (ns.map D.int)] = .ok (.bl true) h' := by
  rw [call_eq (c := ⟨1, 6, b7⟩) rfl rfl]
  exact run' csAll ns hn
end Pk06

end
open PySem PySem.W PyProof.Rows
set_option maxRecDepth 100000 in
set_option maxHeartbeats 0 in
theorem PySem.Challenge.cw_nightglass_k06_sayings_that_agree_holds : PySem.Challenge.rw_nightglass_k06_sayings_that_agree.Holds := by
  w_on; o_law; k_head; (case hw => w_witness2)
  k_fill
  refine Ng.law_of (G := Pk06.G) (T := Pk06.T) (W := Pk06.W) (l := PySem.Challenge.rw_nightglass_k06_sayings_that_agree) (n := 63) (k := 99) (lw := 7) (x := "_law_script") Pk06.run rfl (by decide) rfl ⟨rfl, by decide, by decide⟩ (fun w h Y => PySem.W.kIn_of Y) ?F
  case F =>
    intro w mg fa h KX Gn hmg
    refine' Pk06.all_mk KX Gn hmg ?fa0 ?fl0 ?fc0 ?fk0 ?fa1 ?fl1 ?fc1 ?fk1 ?fa2 ?fl2 ?fc2 ?fk2 ?fa3 ?fl3 ?fc3 ?fk3 ?fa4 ?fl4 ?fc4 ?fk4 ?fa5 ?fl5 ?fc5 ?fk5 ?fa6 ?fl6 ?fc6 ?fk6 ?fa7 ?fl7 ?fc7 ?fk7 ?ga0 ?z_len ?z_isinstance ?z_int ?z_list ?z_bool ?z_str ?z_tuple ?z_range ?z_max ?z_min ?z_ValueError
    (case fa0 => k_is)
    (case fl0 => k_is)
    (case fc0 => k_is)
    (case fk0 => k_is)
    (case fa1 => k_is)
    (case fl1 => k_is)
    (case fc1 => k_is)
    (case fk1 => k_is)
    (case fa2 => k_is)
    (case fl2 => k_is)
    (case fc2 => k_is)
    (case fk2 => k_is)
    (case fa3 => k_is)
    (case fl3 => k_is)
    (case fc3 => k_is)
    (case fk3 => k_is)
    (case fa4 => k_is)
    (case fl4 => k_is)
    (case fc4 => k_is)
    (case fk4 => k_is)
    (case fa5 => k_is)
    (case fl5 => k_is)
    (case fc5 => k_is)
    (case fk5 => k_is)
    (case fa6 => k_is)
    (case fl6 => k_is)
    (case fc6 => k_is)
    (case fk6 => k_is)
    (case fa7 => k_is)
    (case fl7 => k_is)
    (case fc7 => k_is)
    (case fk7 => k_is)
    (case ga0 => k_is)
    (case z_len => k_is)
    (case z_isinstance => k_is)
    (case z_int => k_is)
    (case z_list => k_is)
    (case z_bool => k_is)
    (case z_str => k_is)
    (case z_tuple => k_is)
    (case z_range => k_is)
    (case z_max => k_is)
    (case z_min => k_is)
    (case z_ValueError => k_is)
