import PyProof.Rows.All
import Wide.All
import OpenK.AllK
import Wide.FinOn
import Lean
import PyProof.EqAt
import PyProof.EqKinds
import PyProof.TupleCall
import PyProof.NeKinds
import KE.RegKIsAll
import KE.KTryMore
import KE.RegKTryMore
import PyProof.StationsW
import PyProof.Rows.CatchOwn
import OpenK.KOwn
import PyProof.NsDelKeeps
import PyProof.Rows.RuleN_isinstance
import KE.KSortTup
import PyProof.Rows.StrJoin2
import PyProof.DictItems
import KE.KMinBuiltin
import PyProof.WalkInts
import PyProof.Rows.CallKwBuiltin
import KE.KPairComp
import PyProof.Rows.SortWalk
import KE.KListMore
import PyProof.ListRange
import PyProof.RangeFor
import PyProof.CompFree
import PyProof.DictCompW
import PySem.Challenge.RW_nightglass_k19_whole_matches
set_option Elab.async false
set_option linter.all false
set_option maxRecDepth 100000
namespace L2
open PySem PySem.Spec PyProof.Rows
/-- a key: an int or a str -/
abbrev Key := Sum Int Str
def keyIs : Key → Value → Bool
  | .inl k, v => Value.isInt k v
  | .inr x, v => Value.isStrOf x v
def keyH (w : World) : Key → Int
  | .inl k => hashInt k
  | .inr x => hashStr w x
theorem keyIs_shape : ∀ {k : Key} {v : Value}, keyIs k v = true → (∃ i t, k = Sum.inl i ∧ v = Value.int i t) ∨ (∃ x t, k = Sum.inr x ∧ v = Value.str x t)
  | .inl i, v, h => by
    obtain ⟨t, e⟩ := Value.isInt_shape (k := i) (v := v) h
    exact .inl ⟨i, t, rfl, e⟩
  | .inr x, v, h => by
    obtain ⟨t, e⟩ := Value.isStrOf_shape (x := x) (v := v) h
    exact .inr ⟨x, t, rfl, e⟩
theorem keyIs_int (i : Int) (t : Tok) : keyIs (.inl i) (.int i t) = true := by simp [keyIs, Value.isInt]
theorem keyIs_str (x : Str) (t : Tok) : keyIs (.inr x) (.str x t) = true := by simp [keyIs, Value.isStrOf]
theorem key_ll (a b : Int) : decide ((Sum.inl a : Key) = Sum.inl b) = (a == b) := by
  by_cases e : a = b
  · subst e; simp
  · have h : ¬ (Sum.inl a : Key) = Sum.inl b := fun q => e (Sum.inl.inj q)
    rw [decide_eq_false h]
    exact (beq_eq_false_iff_ne.mpr e).symm
theorem key_rr (a b : Str) : decide ((Sum.inr a : Key) = Sum.inr b) = decide (a = b) := by
  by_cases e : a = b
  · subst e; simp
  · have h : ¬ (Sum.inr a : Key) = Sum.inr b := fun q => e (Sum.inr.inj q)
    rw [decide_eq_false h, decide_eq_false e]
theorem key_lr (a : Int) (b : Str) : decide ((Sum.inl a : Key) = Sum.inr b) = false := decide_eq_false (fun q => nomatch q)
theorem key_rl (a : Str) (b : Int) : decide ((Sum.inr a : Key) = Sum.inl b) = false := decide_eq_false (fun q => nomatch q)

def mixKind (prog : Program) (w : World) : PySem.KeyKind prog w Key where
  is := keyIs
  hash := keyH w
  inj := fun v a b ha hb => by
    rcases keyIs_shape ha with ⟨i, t, rfl, rfl⟩ | ⟨x, t, rfl, rfl⟩
    · rcases keyIs_shape hb with ⟨j, u, rfl, e⟩ | ⟨y, u, rfl, e⟩
      · injection e with e1 _; rw [e1]
      · exact nomatch e
    · rcases keyIs_shape hb with ⟨j, u, rfl, e⟩ | ⟨y, u, rfl, e⟩
      · exact nomatch e
      · injection e with e1 _; rw [e1]
  byValue := fun k v h => by
    rcases keyIs_shape h with ⟨i, t, rfl, rfl⟩ | ⟨x, t, rfl, rfl⟩ <;> rfl
  pyHash := fun hv h => by
    rcases keyIs_shape hv with ⟨i, t, rfl, rfl⟩ | ⟨x, t, rfl, rfl⟩
    · exact wpAny_pyHash_int h
    · exact wpAny_pyHash_str h
  eqBool := fun hu hv h => by
    rcases keyIs_shape hu with ⟨i, t, rfl, rfl⟩ | ⟨x, t, rfl, rfl⟩
    · rcases keyIs_shape hv with ⟨j, u, rfl, rfl⟩ | ⟨y, u, rfl, rfl⟩
      · rw [key_ll] at h; exact wpAny_eqBool_int h
      · rw [key_lr] at h; exact SeqAt.EqAt.int_str i t y u _ _ _ _ h
    · rcases keyIs_shape hv with ⟨j, u, rfl, rfl⟩ | ⟨y, u, rfl, rfl⟩
      · rw [key_rl] at h; exact SeqAt.EqAt.str_int x t j u _ _ _ _ h
      · rw [key_rr] at h; exact wpAny_eqBool_str h
  «strs» := fun k x t v h => by
    rcases keyIs_shape h with ⟨i, u, rfl, e⟩ | ⟨y, u, rfl, e⟩
    · exact nomatch e
    · injection e with e1 _
      subst e1
      cases v <;> rfl

theorem mixKind_int (prog : Program) (w : World) (i : Int) (t : Tok) : (mixKind prog w).is (.inl i) (.int i t) = true := keyIs_int i t
theorem mixKind_str (prog : Program) (w : World) (x : Str) (t : Tok) : (mixKind prog w).is (.inr x) (.str x t) = true := keyIs_str x t
end L2
namespace L2
open PySem PySem.Spec PyProof.Rows
/-- a value, without the heap -/
inductive V where
  | non | bl (b : Bool) | int (i : Int) | str (x : Str) | byt (b : Array UInt8) | flt (b : UInt64) | ref (a : Addr) | ty (n : String)
  deriving DecidableEq

def RelV : V → Value → Prop
  | .non, u => u = Value.none
  | .bl b, u => u = Value.bool b
  | .int i, u => ∃ t, u = Value.int i t
  | .str x, u => ∃ t, u = Value.str x t
  | .byt b, u => ∃ t, u = Value.bytes b t
  | .flt b, u => ∃ t, u = Value.float b t
  | .ref a, u => u = Value.ref a
  | .ty n, u => u = Value.type n

abbrev Vals : List V → List Value → Prop := Paired RelV
theorem Vals.length {xs : List V} {us : List Value} (r : Vals xs us) : xs.length = us.length := Paired.length r
theorem Vals.get : ∀ {xs : List V} {us : List Value} {i : Nat} {x : V}, Vals xs us → xs[i]? = some x → ∃ u, us[i]? = some u ∧ RelV x u
  | _, _, _, _, .nil, e => by simp at e
  | _, _, 0, _, .cons r _, e => by simp at e; subst e; exact ⟨_, rfl, r⟩
  | _, _, i + 1, x, .cons _ t, e => by
    obtain ⟨u, h1, h2⟩ := Vals.get (i := i) (x := x) t (by simpa using e)
    exact ⟨u, by simpa using h1, h2⟩
theorem Vals.set {x : V} {u : Value} (r : RelV x u) : ∀ {xs : List V} {us : List Value} (i : Nat), Vals xs us → Vals (xs.set i x) (us.set i u)
  | _, _, _, .nil => .nil
  | _, _, 0, .cons _ t => .cons r t
  | _, _, i + 1, .cons q t => .cons q (Vals.set r i t)
theorem Vals.append : ∀ {xs ys : List V} {us ws : List Value}, Vals xs us → Vals ys ws → Vals (xs ++ ys) (us ++ ws)
  | _, _, _, _, .nil, s => s
  | _, _, _, _, .cons r t, s => .cons r (Vals.append t s)
theorem Vals.take : ∀ {xs : List V} {us : List Value} (n : Nat), Vals xs us → Vals (xs.take n) (us.take n)
  | _, _, 0, _ => .nil
  | _, _, _ + 1, .nil => .nil
  | _, _, n + 1, .cons r t => .cons r (Vals.take n t)
theorem Vals.drop : ∀ {xs : List V} {us : List Value} (n : Nat), Vals xs us → Vals (xs.drop n) (us.drop n)
  | _, _, 0, r => r
  | _, _, _ + 1, .nil => .nil
  | _, _, n + 1, .cons _ t => Vals.drop n t
def RelO : Option V → Option Value → Prop
  | some v, some u => RelV v u
  | none, none => True
  | _, _ => False
def KV {κ : Type} : List (κ × V) → List (κ × Value) → Prop := Paired fun (p : κ × V) (q : κ × Value) => p.1 = q.1 ∧ RelV p.2 q.2

/-- a key of a dict (00_mix): an int or a text -/
def kV : Key → V
  | .inl i => .int i
  | .inr x => .str x

/-- what stands at a tracked address -/
inductive HO where
  /-- a list -/
  | lst (xs : List V)
  /-- a tuple (never changes) -/
  | tup (xs : List V)
  /-- a dict whose keys are ints and texts; one whose keys are tuples of ints and texts (the empty one is both) -/
  | dK (kvs : List (Key × V)) | dT (kvs : List (List Key × V))
  /-- a set of ints: its members, its size -/
  | set (S : Int → Bool) (n : Nat)
  /-- an instance of the class at C, its dict at dx, its attributes -/
  | ins (C dx : Addr) (fs : List (Str × V))
  /-- the dict of the instance at x -/
  | own (x : Addr)
  /-- the dict of an exception -/
  | xd (fs : List (Str × V))
  /-- a bound method, f of x -/
  | met (f x : Addr)
  /-- a range object lo, lo + 1, .. below hi -/
  | rng (lo hi : Int)
  /-- a thing that is known to the object (the script; a dict while a loop walks it): read, never written while it is so -/
  | frz (o : Obj) (u : HO)
  /-- a code object's table -/
  | tbl (ps : Array Value)
  /-- any other thing, by what is true of its one object (a def of one's own: SetO a S n := HO.ext fun h => ..) -/
  | ext (φ : Heap → Prop)

abbrev Hp := Addr → Option HO
def upd (H : Hp) (a : Addr) (o : HO) : Hp := fun b => if b = a then some o else H b
theorem upd_same {H : Hp} {a : Addr} {o : HO} : upd H a o a = some o := by unfold upd; rw [if_pos rfl]
theorem upd_ne {H : Hp} {a b : Addr} {o : HO} (h : b ≠ a) : upd H a o b = H b := by unfold upd; rw [if_neg h]
/-- two objects of different content stand apart -/
theorem ne_of {H : Hp} {a b : Addr} {o u : HO} (h : H a = some o) (h' : H b = some u) (d : o ≠ u) : a ≠ b := by
  intro e; subst e; rw [h] at h'; exact d (Option.some.inj h')
theorem ne_of_none {H : Hp} {a b : Addr} {o : HO} (h : H a = some o) (h' : H b = none) : a ≠ b := by
  intro e; subst e; rw [h] at h'; cases h'

section
variable (P : Program) (w : World)
def ObjOk (H : Hp) (h : Heap) (a : Addr) : HO → Prop
  | .lst xs => xs.length ≤ sizeLine ∧ ∃ (its : List Value) (n : Nat), Vals xs its ∧ h.get? a = some { cls := .type "list", data := .seq its.toArray n }
  | .tup xs => xs.length ≤ sizeLine ∧ ∃ its : List Value, Vals xs its ∧ IsTup h a its.toArray
  | .dK kvs => kvs.length ≤ sizeLine ∧ (a == sysModules) = false ∧ ∃ vs, KV kvs vs ∧ h.DictOf (mixKind P w) a vs
  | .dT kvs => kvs.length ≤ sizeLine ∧ (a == sysModules) = false ∧ ∃ xs : List (List Key × Addr × Value),
      Paired (fun (p : List Key × V) (q : List Key × Addr × Value) => p.1 = q.1 ∧ H q.2.1 = some (.tup (p.1.map kV)) ∧ RelV p.2 q.2.2) kvs xs ∧
      ∃ o es ep, h.get? a = some o ∧ o.ExactDict ∧ o.data = .dict es ep ∧ es.toList = xs.map (entryOfKey (tupleKind (mixKind P w))) ∧ (xs.map (·.1)).Nodup
  | .set S n => h.SetOf (intKind P w) a S n
  | .ins C dx fs => H dx = some (.own a) ∧ fs.length ≤ 1000 ∧ dx ≠ a ∧ h.get? a = some (PySem.W.instObj C dx) ∧
      ∃ mA, h.Ns1 dx mA ∧ (∀ f, RelO (fs.lookup f) (mA f)) ∧ PySem.Within mA (fs.map (·.1))
  | .own _ => ∃ o, h.get? a = some o
  | .xd fs => ∃ mA, h.Ns1 a mA ∧ ∀ f, RelO (fs.lookup f) (mA f)
  | .rng lo hi => ∃ t u v, h.get? a = some { cls := .type "range", data := .fields #[.int lo t, .int hi u, .int 1 v] }
  | .frz o u => h.get? a = some o ∧ ObjOk H h a u
  | .tbl ps => h.get? a = some { cls := .none, data := .fields ps }
  | .met f x => h.get? a = some (PySem.W.methodObj (.ref f) (.ref x))
  | .ext φ => φ h ∧ (∃ o, h.get? a = some o) ∧ ∀ h1 h2 : Heap, φ h1 → (∀ o, h1.get? a = some o → h2.get? a = some o) → φ h2
/-- the abstract heap is held -/
def HOk (H : Hp) (h : Heap) : Prop := ∀ a o, H a = some o → ObjOk P w H h a o
end
section
variable {P : Program} {w : World} {H H' : Hp} {h h' : Heap} {a : Addr} {o : HO}
theorem ObjOk.lt (x : ObjOk P w H h a o) : a < h.objs.size := by
  cases o with
  | lst xs => obtain ⟨_, _, _, _, e⟩ := x; exact Heap.lt_size e
  | tup xs => obtain ⟨_, _, _, p⟩ := x; exact p.lt
  | dK kvs => obtain ⟨_, _, _, _, o, _, _, e, _⟩ := x; exact Heap.lt_size e
  | dT kvs => obtain ⟨_, _, _, _, o, _, _, e, _⟩ := x; exact Heap.lt_size e
  | set S n => obtain ⟨o, _, _, _, e, _⟩ := x; exact Heap.lt_size e
  | ins C dx fs => obtain ⟨_, _, _, e, _⟩ := x; exact Heap.lt_size e
  | own y => obtain ⟨_, e⟩ := x; exact Heap.lt_size e
  | xd fs => obtain ⟨_, ⟨_, _, _, e, _⟩, _⟩ := x; exact Heap.lt_size e
  | rng lo hi => obtain ⟨_, _, _, e⟩ := x; exact Heap.lt_size e
  | frz ob u => obtain ⟨e, _⟩ := x; exact Heap.lt_size e
  | tbl ps => exact Heap.lt_size (show h.get? a = some _ from x)
  | met f y => exact Heap.lt_size (show h.get? a = some _ from x)
  | ext φ => obtain ⟨_, ⟨_, e⟩, _⟩ := x; exact Heap.lt_size e
theorem Paired.mapP {α β : Type} {F G : α → β → Prop} : ∀ {l₁ : List α} {l₂ : List β}, Paired F l₁ l₂ → (∀ a b, F a b → G a b) → Paired G l₁ l₂
  | _, _, .nil, _ => .nil
  | _, _, .cons r t, f => .cons (f _ _ r) (Paired.mapP t f)
/-- what an object's description leans on: its own object, its own dict, the tuples -/
theorem ObjOk.stay (x : ObjOk P w H h a o) (k : ∀ b u, (b = a ∨ H b = some (.own a)) → h.get? b = some u → h'.get? b = some u)
    (ho : ∀ b, H b = some (.own a) → H' b = some (.own a)) (ht : ∀ b xs, H b = some (.tup xs) → H' b = some (.tup xs)) : ObjOk P w H' h' a o := by
  induction o with
  | lst xs => obtain ⟨z, its, n, r, e⟩ := x; exact ⟨z, its, n, r, k _ _ (.inl rfl) e⟩
  | tup xs => obtain ⟨z, its, r, ob, e, c⟩ := x; exact ⟨z, its, r, ob, k _ _ (.inl rfl) e, c⟩
  | dK kvs => obtain ⟨z, y, vs, r, ob, es, ep, e, c⟩ := x; exact ⟨z, y, vs, r, ob, es, ep, k _ _ (.inl rfl) e, c⟩
  | dT kvs =>
    obtain ⟨z, y, xs, r, ob, es, ep, e, c⟩ := x
    exact ⟨z, y, xs, Paired.mapP r fun p q z => ⟨z.1, ht _ _ z.2.1, z.2.2⟩, ob, es, ep, k _ _ (.inl rfl) e, c⟩
  | set S n => obtain ⟨ob, es, ep, t, e, c⟩ := x; exact ⟨ob, es, ep, t, k _ _ (.inl rfl) e, c⟩
  | ins C dx fs =>
    obtain ⟨d, z, ne, e, mA, ⟨od, es, ep, e2, c⟩, r⟩ := x
    exact ⟨ho _ d, z, ne, k _ _ (.inl rfl) e, mA, ⟨od, es, ep, k _ _ (.inr d) e2, c⟩, r⟩
  | own y => obtain ⟨ob, e⟩ := x; exact ⟨ob, k _ _ (.inl rfl) e⟩
  | xd fs => obtain ⟨mA, ⟨od, es, ep, e, c⟩, r⟩ := x; exact ⟨mA, ⟨od, es, ep, k _ _ (.inl rfl) e, c⟩, r⟩
  | rng lo hi => obtain ⟨t, u, v, e⟩ := x; exact ⟨t, u, v, k _ _ (.inl rfl) e⟩
  | frz ob u ih => obtain ⟨e, q⟩ := x; exact ⟨k _ _ (.inl rfl) e, ih q⟩
  | tbl ps =>
    have e : h.get? a = some { cls := .none, data := .fields ps } := x
    show h'.get? a = some { cls := .none, data := .fields ps }
    exact k a _ (.inl rfl) e
  | met f y =>
    have e : h.get? a = some (PySem.W.methodObj (.ref f) (.ref y)) := x
    show h'.get? a = some (PySem.W.methodObj (.ref f) (.ref y))
    exact k a _ (.inl rfl) e
  | ext φ => obtain ⟨p, ⟨o, e⟩, st⟩ := x; exact ⟨st _ _ p fun o q => k _ _ (.inl rfl) q, ⟨o, k _ _ (.inl rfl) e⟩, st⟩
theorem HOk.lt (x : HOk P w H h) (e : H a = some o) : a < h.objs.size := (x a o e).lt
theorem HOk.fresh (x : HOk P w H h) (e : h.objs.size ≤ a) : H a = none := by
  cases q : H a with
  | none => rfl
  | some u => exact absurd (Nat.lt_of_lt_of_le (x.lt q) e) (Nat.lt_irrefl _)
/-- every object of the heap is kept -/
theorem HOk.kept (x : HOk P w H h) (k : ∀ b u, h.get? b = some u → h'.get? b = some u) : HOk P w H h' := fun a o e =>
  (x a o e).stay (fun b u _ q => k b u q) (fun _ q => q) fun _ _ q => q
/-- a new object is laid and tracked -/
theorem HOk.laid (x : HOk P w H h) (k : ∀ b u, h.get? b = some u → h'.get? b = some u) (hp : h.objs.size ≤ a) (new : ObjOk P w (upd H a o) h' a o) : HOk P w (upd H a o) h' := fun b u e => by
  have hn := x.fresh hp
  by_cases hb : b = a
  · subst hb; rw [upd_same] at e; cases e; exact new
  · rw [upd_ne hb] at e
    exact (x b u e).stay (fun c v _ q => k c v q) (fun c q => by rw [upd_ne (ne_of_none q hn)]; exact q) fun c xs q => by rw [upd_ne (ne_of_none q hn)]; exact q
end
/-- what may be read as u: it is u, or a known u -/
def Rd (H : Hp) (a : Addr) (u : HO) : Prop := H a = some u ∨ ∃ o, H a = some (.frz o u)
theorem Rd.of {H : Hp} {a : Addr} {u : HO} (h : H a = some u) : Rd H a u := .inl h
theorem Rd.ok {P : Program} {w : World} {H : Hp} {h : Heap} {a : Addr} {u : HO} (r : Rd H a u) (x : HOk P w H h) : ObjOk P w H h a u := by
  rcases r with r | ⟨o, r⟩
  · exact x a u r
  · obtain ⟨_, q⟩ := x a _ r
    exact q
/-- what may be written -/
def Mut : Option HO → Prop
  | some (.lst _) => True
  | some (.dK _) => True
  | some (.dT _) => True
  | some (.set _ _) => True
  | some (.ins _ _ _) => True
  | some (.ext _) => True
  | _ => False
section
variable {P : Program} {w : World} {H : Hp} {h h' : Heap} {x e : Addr} {o' : HO}
/-- the object at e is changed: x itself, or the dict of the instance x -/
theorem HOk.write (ok : HOk P w H h) (mu : Mut (H x)) (he : e = x ∨ H e = some (.own x)) (k : ∀ b u, b ≠ e → h.get? b = some u → h'.get? b = some u) (heo : ∃ u, h'.get? e = some u)
    (new : ObjOk P w (upd H x o') h' x o') : HOk P w (upd H x o') h' := fun b u q => by
  have nown : ∀ c y, H c = some (.own y) → c ≠ x := fun c y r z => by subst z; rw [r] at mu; exact mu
  have ntup : ∀ c xs, H c = some (.tup xs) → c ≠ x := fun c xs r z => by subst z; rw [r] at mu; exact mu
  by_cases hb : b = x
  · subst hb; rw [upd_same] at q; cases q; exact new
  · rw [upd_ne hb] at q
    by_cases hbe : b = e
    · have q' : H b = some (.own x) := by
        rcases he with z | z
        · exact absurd (hbe.trans z) hb
        · rw [hbe]; exact z
      rw [q] at q'; cases q'
      obtain ⟨v, hv⟩ := heo
      exact ⟨v, by rw [hbe]; exact hv⟩
    · refine (ok b u q).stay (fun c v hc r => k c v ?_ r) (fun c r => by rw [upd_ne (nown c b r)]; exact r) fun c xs r => by rw [upd_ne (ntup c xs r)]; exact r
      rcases hc with rfl | hc
      · exact hbe
      · rintro rfl
        rcases he with z | z
        · exact nown c b hc z
        · rw [hc] at z; cases z; exact hb rfl
end
structure Un (fs ex : List Addr) (H H' : Hp) (h h' : Heap) : Prop where
  keep : ∀ b o, h.get? b = some o → H b = none → b ∉ fs → b ∉ ex → h'.get? b = some o
  slot : ∀ b o, h.get? b = some o → H b = none → b ∈ fs → b ∉ ex → ∃ sl, h'.get? b = some { o with slots := sl }
  free : ∀ b o, h.get? b = some o → H b = none → b ∉ ex → H' b = none
  there : ∀ b o, h.get? b = some o → b ∉ ex → ∃ o', h'.get? b = some o'
  tups : ∀ b xs, H b = some (.tup xs) → H' b = some (.tup xs)
  frzs : ∀ b o u, H b = some (.frz o u) → H' b = some (.frz o u)
  tbls : ∀ b ps, H b = some (.tbl ps) → ∃ more, H' b = some (.tbl (ps ++ more))
section
variable {fs fs' ex ex' : List Addr} {H H1 H2 : Hp} {h h1 h2 h' : Heap} {a x e : Addr} {o : HO}
theorem Un.any (u : Un fs ex H H1 h h1) {b : Addr} {ob : Obj} (q : h.get? b = some ob) (n : H b = none) (hx : b ∉ ex) : ∃ sl, h1.get? b = some { ob with slots := sl } := by
  by_cases hb : b ∈ fs
  · exact u.slot b ob q n hb hx
  · exact ⟨ob.slots, u.keep b ob q n hb hx⟩
theorem Un.trans (a : Un fs ex H H1 h h1) (b : Un fs ex H1 H2 h1 h2) : Un fs ex H H2 h h2 where
  keep := fun c ob q n hc hx => b.keep c ob (a.keep c ob q n hc hx) (a.free c ob q n hx) hc hx
  slot := fun c ob q n hc hx => by
    obtain ⟨sl, e1⟩ := a.slot c ob q n hc hx
    obtain ⟨sl', e2⟩ := b.slot c _ e1 (a.free c ob q n hx) hc hx
    exact ⟨sl', e2⟩
  free := fun c ob q n hx => by
    obtain ⟨o', e1⟩ := a.there c ob q hx
    exact b.free c o' e1 (a.free c ob q n hx) hx
  there := fun c ob q hx => by
    obtain ⟨o', e1⟩ := a.there c ob q hx
    exact b.there c o' e1 hx
  tups := fun c xs q => b.tups c xs (a.tups c xs q)
  frzs := fun c ob xs q => b.frzs c ob xs (a.frzs c ob xs q)
  tbls := fun c ps q => by
    obtain ⟨m1, e1⟩ := a.tbls c ps q
    obtain ⟨m2, e2⟩ := b.tbls c _ e1
    exact ⟨m1 ++ m2, by rw [e2, Array.append_assoc]⟩
theorem Un.kept (k : ∀ b u, h.get? b = some u → h'.get? b = some u) : Un fs ex H H h h' :=
  ⟨fun b ob q _ _ _ => k b ob q, fun b ob q _ _ _ => ⟨ob.slots, k b ob q⟩, fun _ _ _ n _ => n, fun b ob q _ => ⟨ob, k b ob q⟩, fun _ _ q => q, fun _ _ _ q => q, fun _ ps q => ⟨#[], by rw [q]; simp⟩⟩
theorem Un.refl : Un fs ex H H h h := Un.kept fun _ _ q => q
theorem Un.laid (k : ∀ b u, h.get? b = some u → h'.get? b = some u) (hp : h.objs.size ≤ a) (hn : H a = none) : Un fs ex H (upd H a o) h h' where
  keep := fun b u q _ _ _ => k b u q
  slot := fun b u q _ _ _ => ⟨u.slots, k b u q⟩
  free := fun b u q n _ => by rw [upd_ne (Nat.ne_of_lt (Nat.lt_of_lt_of_le (Heap.lt_size q) hp))]; exact n
  there := fun b u q _ => ⟨u, k b u q⟩
  tups := fun b xs q => by rw [upd_ne (ne_of_none q hn)]; exact q
  frzs := fun b u xs q => by rw [upd_ne (ne_of_none q hn)]; exact q
  tbls := fun b ps q => ⟨#[], by rw [upd_ne (ne_of_none q hn), q]; simp⟩
theorem Un.write (mu : Mut (H x)) (he : e = x ∨ H e = some (.own x)) (k : ∀ b u, b ≠ e → h.get? b = some u → h'.get? b = some u) (heo : ∃ u, h'.get? e = some u) : Un fs ex H (upd H x o) h h' := by
  have hx : ∀ b, H b = none → b ≠ x := fun b n z => by subst z; rw [n] at mu; exact mu
  have hb : ∀ b, H b = none → b ≠ e := fun b n z => by
    subst z
    rcases he with r | r
    · exact hx b n r
    · rw [n] at r; cases r
  have hm : ∀ b u, H b = some u → ¬ Mut (some u) → b ≠ x := fun b u q nm z => by subst z; rw [q] at mu; exact nm mu
  refine ⟨fun b u q n _ _ => k b u (hb b n) q, fun b u q n _ _ => ⟨u.slots, k b u (hb b n) q⟩, fun b u q n _ => by rw [upd_ne (hx b n)]; exact n, fun b u q _ => ?_,
    fun b xs q => by rw [upd_ne (hm b _ q fun z => z)]; exact q, fun b u xs q => by rw [upd_ne (hm b _ q fun z => z)]; exact q, fun b ps q => ⟨#[], by rw [upd_ne (hm b _ q fun z => z), q]; simp⟩⟩
  by_cases hbe : b = e
  · subst hbe; exact heo
  · exact ⟨u, k b u hbe q⟩
theorem Un.mono (u : Un fs ex H H1 h h1) (hs : ∀ b ∈ fs, b ∈ fs') (hx : ∀ b ∈ ex, b ∈ ex') : Un fs' ex' H H1 h h1 :=
  ⟨fun b ob q n hb he => u.keep b ob q n (fun z => hb (hs b z)) fun z => he (hx b z), fun _ _ q n _ he => u.any q n fun z => he (hx _ z), fun b ob q n he => u.free b ob q n fun z => he (hx b z), fun b ob q he => u.there b ob q fun z => he (hx b z), u.tups, u.frzs, u.tbls⟩
end
def trk (h : Heap) (H : Hp) : List Addr := (List.range h.objs.size).filter fun a => (H a).isSome
def hidT (h : Heap) (H : Hp) : Heap := PySem.W.hideAll h (trk h H)
theorem hidT_size (h : Heap) (H : Hp) : (hidT h H).objs.size = h.objs.size := PySem.W.hideAll_size _ _
theorem hidT_get {h : Heap} {H : Hp} {b : Addr} {o : Obj} (e : h.get? b = some o) (n : H b = none) : (hidT h H).get? b = some o :=
  PySem.W.hideAll_get _ e fun hm => by
    have q : (H b).isSome = true := (List.mem_filter.mp hm).2
    rw [n] at q; simp at q
theorem of_hidT {h : Heap} {H : Hp} {b : Addr} {o : Obj} (e : (hidT h H).get? b = some o) : h.get? b = some o ∧ H b = none := by
  have e' : h.get? b = some o := PySem.W.of_hideAll (trk h H) e
  refine ⟨e', ?_⟩
  cases q : H b with
  | none => rfl
  | some x =>
    have hm : b ∈ trk h H := List.mem_filter.mpr ⟨List.mem_range.mpr (Heap.lt_size e'), by simp [q]⟩
    have z : (hidT h H).get? b = none := PySem.W.hideAll_none (trk h H) hm
    rw [z] at e; cases e

def allNews (g h : Heap) (L : Addr) : List (Addr × Obj) := (List.range h.objs.size).filterMap fun a => if a = L ∨ (g.get? a).isSome = true then none else (h.get? a).map fun o => (a, o)
theorem mem_allNews {g h : Heap} {L a : Addr} {o : Obj} (h1 : a ≠ L) (h2 : g.get? a = none) (h3 : h.get? a = some o) : (a, o) ∈ allNews g h L :=
  List.mem_filterMap.mpr ⟨a, List.mem_range.mpr (Heap.lt_size h3), by simp [h1, h2, h3]⟩
theorem of_mem_allNews {g h : Heap} {L : Addr} {p : Addr × Obj} (hp : p ∈ allNews g h L) : p.1 ≠ L ∧ g.get? p.1 = none ∧ h.get? p.1 = some p.2 := by
  obtain ⟨b, _, e⟩ := List.mem_filterMap.mp hp
  split at e
  · cases e
  · rename_i hn
    cases q : h.get? b with
    | none => rw [q] at e; simp at e
    | some u =>
      rw [q] at e
      simp only [Option.map_some, Option.some.injEq] at e
      subst e
      refine ⟨fun z => hn (.inl z), ?_, q⟩
      show g.get? b = none
      cases r : g.get? b with
      | none => rfl
      | some v => exact (hn (.inr (by simp [r]))).elim
def rest (g h : Heap) (L d : Addr) : List (Addr × Obj) := (allNews g h L).filter fun p => decide (p.1 ≠ d)
theorem news_all {g h : Heap} {L : Addr} : News g L h (allNews g h L) := fun p hp => let ⟨a, b, c⟩ := of_mem_allNews hp; ⟨c, a, b⟩
end L2
namespace L2
open PySem PySem.Spec PyProof.Rows
/-- the module's facts, over the base: the heap at the law's entry without what is tracked there -/
structure Mod (K : PySem.W.Frag) (mg : Str → Option Value) (base : Heap) : Prop where
  kin : K.In base
  glob : base.Ns mainGlobals mg
  blt : ∃ mb, base.Ns builtinsNs mb ∧ ∀ x : Str, x ≠ "__name__" → mb x = bootBuiltins x
  nolimit : base.NoLimit

/-- the context: a def's body (or a comprehension's block) running. base: fixed through the whole law; s₀, H₀: the entry; outer: the frames whose slots others may change (a def's callers); stack: all frames that run;
   ex: iterators that were made ahead of the entry and are walked here (a comprehension's); fn: the names whose cells were made at the entry (a def: all; a comprehension's block: its own); calm: not within an except suite; pn: pins that every state bears; xe: what is wanted of an exception that leaves the code -/
structure Cx where
  prog : Program
  w : World
  K : PySem.W.Frag
  mg : Str → Option Value
  base : Heap
  A : Around
  N : List Str
  s₀ : Shared
  H₀ : Hp
  env : Env
  outer : List Env
  stack : List Env
  ex : List Addr
  fn : Str → Bool
  calm : Bool
  pn : List (Addr × Obj)
  xe : Value → Shared → Prop
/-- the callers' frames -/
def frs (l : List Env) : List Addr := l.filterMap (·.frame)
abbrev Cx.fs (X : Cx) : List Addr := frs X.outer

def Vis (sc : Scope) (x : Str) : Prop := sc.names.lookup x = some .local ∨ sc.names.lookup x = some .cell ∨ sc.names.lookup x = some .free
def Loc (sc : Scope) (x : Str) : Prop := sc.names.lookup x = some .local ∨ sc.names.lookup x = some .cell
def Look (env : Env) (h : Heap) (m : Str → Option Value) (x : Str) (u : Value) : Prop :=
  (env.kindOf x = some .local ∧ m x = some u) ∨ ((env.kindOf x = some .cell ∨ env.kindOf x = some .free) ∧ ∃ c, env.cells.lookup x = some c ∧ h.IsCell c (some u))

structure Cx.Ok (X : Cx) : Prop where
  mod : Mod X.K X.mg X.base
  kind : X.env.scope.kind = .function
  glob : X.env.globals = mainGlobals
  blt : X.env.builtins = builtinsNs
  above : X.s₀.heap.objs.size ≤ X.env.locals
  inj : ∀ x y c, X.env.cells.lookup x = some c → X.env.cells.lookup y = some c → x = y
  has : ∀ x, (X.env.kindOf x = some .cell ∨ X.env.kindOf x = some .free) → ∃ c, X.env.cells.lookup x = some c
  cab : ∀ x c, X.fn x = true → X.env.cells.lookup x = some c → X.s₀.heap.objs.size ≤ c
  hd : X.calm = true → X.A.handled = none
  frames : X.A.frames = some X.stack
  stk : X.stack = X.outer ∨ (X.stack = X.env :: X.outer ∧ X.env.frame = some X.env.locals)
  exf : ∀ b ∈ X.ex, b ≠ X.env.locals ∧ ∀ x c, X.env.cells.lookup x = some c → c ≠ b
  bs : ∀ b o, X.base.get? b = some o → X.s₀.heap.get? b = some o ∧ X.H₀ b = none
  bsz : X.base.objs.size ≤ X.s₀.heap.objs.size
  noex : ∀ b o, X.base.get? b = some o → b ∉ X.ex
  exfs : ∀ b ∈ X.ex, b ∉ X.fs
  funs : X.s₀.heap.FunFrames X.base X.outer
  frf : ∀ b ∈ X.fs, X.H₀ b = none

structure Inv (X : Cx) (pins : List (Addr × Obj)) (σ : List (Option V)) (H : Hp) (s : Shared) : Prop where
  ok : X.Ok
  os : s.os = X.s₀.os
  bare : AllBare s.gens
  base : Un X.fs X.ex X.H₀ H X.s₀.heap s.heap
  loc : ∃ m, s.heap.Ns X.env.locals m ∧ ∀ (i : Nat) (x : Str) (v : V), X.N[i]? = some x → σ[i]? = some (some v) → Vis X.env.scope x → ∃ u, RelV v u ∧ Look X.env s.heap m x u
  cell : ∀ x c, X.env.cells.lookup x = some c → ∃ v, s.heap.IsCell c v
  free : H X.env.locals = none
  freeC : ∀ x c, X.env.cells.lookup x = some c → H c = none
  pin : ∀ p ∈ X.pn ++ pins, s.heap.get? p.1 = some p.2 ∧ H p.1 = none ∧ p.1 ≠ X.env.locals ∧ p.1 ∉ X.fs ∧ ∀ v, p.2.data ≠ .cell v
  hok : HOk X.prog X.w H s.heap
  len : σ.length = X.N.length

section
variable {X : Cx} {pins : List (Addr × Obj)} {σ : List (Option V)} {H H' : Hp} {s : Shared} {h' : Heap}
theorem Cx.Ok.nofr (ok : X.Ok) {b : Addr} {o : Obj} (e : X.base.get? b = some o) : b ∉ X.fs := fun hb => by
  have := (ok.funs.mem hb).1
  rw [e] at this; cases this
theorem Inv.bs (I : Inv X pins σ H s) : ∀ b o, X.base.get? b = some o → s.heap.get? b = some o ∧ H b = none := fun b o e =>
  ⟨I.base.keep b o (I.ok.bs b o e).1 (I.ok.bs b o e).2 (I.ok.nofr e) (I.ok.noex b o e), I.base.free b o (I.ok.bs b o e).1 (I.ok.bs b o e).2 (I.ok.noex b o e)⟩
theorem Inv.bk (I : Inv X pins σ H s) : ∀ b o, X.base.get? b = some o → s.heap.get? b = some o := fun b o e => (I.bs b o e).1
theorem Inv.mod (I : Inv X pins σ H s) : Mod X.K X.mg X.base := I.ok.mod
theorem Inv.kIn (I : Inv X pins σ H s) : X.K.In s.heap := I.ok.mod.kin.keeps I.bk
theorem Inv.nolimit (I : Inv X pins σ H s) : s.heap.NoLimit := I.ok.mod.nolimit.keeps I.bk
/-- the frame over the base: for OpenK's rules (K.In X.base is I.mod.kin) -/
theorem Inv.fr (I : Inv X pins σ H s) : ∃ m, Fr X.base X.env.locals s.heap m :=
  let ⟨m, hn, _⟩ := I.loc
  ⟨m, hn, I.bk, Nat.le_trans I.ok.bsz I.ok.above⟩
theorem Inv.lt (I : Inv X pins σ H s) : X.env.locals < s.heap.objs.size := let ⟨_, hn, _⟩ := I.loc; hn.lt
theorem Inv.sz (I : Inv X pins σ H s) : X.s₀.heap.objs.size ≤ s.heap.objs.size := Nat.le_trans I.ok.above (Nat.le_of_lt I.lt)
theorem Inv.nofs (I : Inv X pins σ H s) {a : Addr} (h : s.heap.objs.size ≤ a) : a ∉ X.fs := fun hb => by
  obtain ⟨_, o, ho, _⟩ := I.ok.funs.mem hb
  exact absurd (Nat.lt_of_lt_of_le (Heap.lt_size ho) (Nat.le_trans I.sz h)) (Nat.lt_irrefl _)
theorem Inv.cne (I : Inv X pins σ H s) : ∀ x c, X.env.cells.lookup x = some c → c ≠ X.env.locals := fun x c e z => by
  obtain ⟨v, o, ho, hd⟩ := I.cell x c e
  obtain ⟨m, ⟨o', es, ep, ho', hd', _⟩, _⟩ := I.loc
  rw [z, ho'] at ho; cases ho; rw [hd'] at hd; cases hd
theorem Inv.funs (I : Inv X pins σ H s) : s.heap.FunFrames X.base X.outer := by
  have all : ∀ (l : List Env), (∀ b ∈ frs l, b ∈ X.fs) → X.s₀.heap.FunFrames X.base l → s.heap.FunFrames X.base l := by
    intro l
    induction l with
    | nil => intro _ _; trivial
    | cons env r ih =>
      intro hs hl
      obtain ⟨hk, ⟨L, o, hf, hn, ho, hd⟩, hr⟩ := hl
      have hL : L ∈ X.fs := hs L (by unfold frs; rw [List.filterMap_cons, hf]; exact List.mem_cons_self)
      obtain ⟨sl, e⟩ := I.base.slot L o ho (I.ok.frf L hL) hL fun z => I.ok.exfs L z hL
      exact ⟨hk, ⟨L, _, hf, hn, e, hd⟩, ih (fun b hb => hs b (by unfold frs; rw [List.filterMap_cons, hf]; exact List.mem_cons_of_mem _ hb)) hr⟩
  exact all X.outer (fun _ hb => hb) I.ok.funs

/-- the frames that run, for a call -/
theorem Inv.stack (I : Inv X pins σ H s) : s.heap.FunFrames X.base X.stack := by
  rcases I.ok.stk with e | ⟨e, hf⟩
  · rw [e]; exact I.funs
  · rw [e]
    obtain ⟨m, hn, _⟩ := I.loc
    refine .cons (by rw [I.ok.kind]; decide) hf hn ?_ I.funs
    exact Heap.get?_none_of_le (Nat.le_trans I.ok.bsz I.ok.above)
theorem Inv.stkSub (I : Inv X pins σ H s) : ∀ b ∈ frs X.stack, b ∈ X.env.locals :: X.fs := fun b hb => by
  rcases I.ok.stk with e | ⟨e, hf⟩
  · rw [e] at hb; exact List.mem_cons_of_mem _ hb
  · rw [e] at hb
    unfold frs at hb
    rw [List.filterMap_cons, hf] at hb
    exact hb
theorem Inv.stkFree (I : Inv X pins σ H s) : ∀ b ∈ frs X.stack, H b = none := fun b hb => by
  rcases List.mem_cons.mp (I.stkSub b hb) with e | hb
  · rw [e]; exact I.free
  · obtain ⟨_, o, ho, _⟩ := I.ok.funs.mem hb
    exact I.base.free b o ho (I.ok.frf b hb) fun z => I.ok.exfs b z hb

/-- THE STEP: the untracked objects but the frame and the records at ch are kept (the callers' frames up to slots), the frame's map is kept, the new abstract heap is held -/
theorem Inv.step {g' : Array GenState} {t' : Nat} {d' : Drawn} {ch : List Addr} (I : Inv X pins σ H s)
    (hch : ∀ b ∈ ch, (b ∈ X.ex ∨ X.s₀.heap.objs.size ≤ b) ∧ b ≠ X.env.locals ∧ (∀ x c, X.env.cells.lookup x = some c → c ≠ b) ∧ ∀ p ∈ X.pn ++ pins, p.1 ≠ b)
    (keep : ∀ b o, b ≠ X.env.locals → b ∉ X.fs → b ∉ ch → s.heap.get? b = some o → H b = none → h'.get? b = some o)
    (slot : ∀ b o, b ≠ X.env.locals → b ∈ X.fs → b ∉ ch → s.heap.get? b = some o → H b = none → ∃ sl, h'.get? b = some { o with slots := sl }) (free : ∀ b o, b ∉ ch → s.heap.get? b = some o → H b = none → H' b = none)
    (there : ∀ b o, b ∉ ch → s.heap.get? b = some o → ∃ o', h'.get? b = some o')
    (tups : ∀ b xs, H b = some (.tup xs) → H' b = some (.tup xs)) (frzs : ∀ b o u, H b = some (.frz o u) → H' b = some (.frz o u)) (tbls : ∀ b ps, H b = some (.tbl ps) → ∃ more, H' b = some (.tbl (ps ++ more)))
    (ns : ∀ m, s.heap.Ns X.env.locals m → h'.Ns X.env.locals m) (hok : HOk X.prog X.w H' h') (hg : AllBare g') :
    Inv X pins σ H' { s with heap := h', gens := g', drawn := d', toks := t' } := by
  have neL : ∀ b o, X.s₀.heap.get? b = some o → b ≠ X.env.locals := fun b o e => Nat.ne_of_lt (Nat.lt_of_lt_of_le (Heap.lt_size e) I.ok.above)
  have neC : ∀ b o, X.s₀.heap.get? b = some o → b ∉ X.ex → b ∉ ch := fun b o e hx hb => by
    rcases (hch b hb).1 with z | z
    · exact hx z
    · exact absurd (Nat.lt_of_lt_of_le (Heap.lt_size e) z) (Nat.lt_irrefl _)
  have cellK : ∀ x c, X.env.cells.lookup x = some c → ∀ v, s.heap.IsCell c v → h'.IsCell c v := fun x c e v ⟨o, ho, hd⟩ => by
    have nch : c ∉ ch := fun z => (hch c z).2.2.1 x c e rfl
    by_cases hc : c ∈ X.fs
    · obtain ⟨sl, q⟩ := slot c o (I.cne x c e) hc nch ho (I.freeC x c e)
      exact ⟨_, q, hd⟩
    · exact ⟨o, keep c o (I.cne x c e) hc nch ho (I.freeC x c e), hd⟩
  refine ⟨I.ok, I.os, hg, ⟨fun b o e n hb hx => ?_, fun b o e n hb hx => ?_, fun b o e n hx => ?_, fun b o e hx => ?_, fun b xs e => tups b xs (I.base.tups b xs e), fun b o xs e => frzs b o xs (I.base.frzs b o xs e), fun b ps e => ?_⟩, ?_, fun x c e => ?_, ?_, fun x c e => ?_, fun p hp => ?_, hok, I.len⟩
  · exact keep b o (neL b o e) hb (neC b o e hx) (I.base.keep b o e n hb hx) (I.base.free b o e n hx)
  · obtain ⟨sl, e1⟩ := I.base.slot b o e n hb hx
    obtain ⟨sl', e2⟩ := slot b _ (neL b o e) hb (neC b o e hx) e1 (I.base.free b o e n hx)
    exact ⟨sl', e2⟩
  · obtain ⟨o', e1⟩ := I.base.there b o e hx
    exact free b o' (neC b o e hx) e1 (I.base.free b o e n hx)
  · obtain ⟨o', e1⟩ := I.base.there b o e hx
    exact there b o' (neC b o e hx) e1
  · obtain ⟨m1, e1⟩ := I.base.tbls b ps e
    obtain ⟨m2, e2⟩ := tbls b _ e1
    exact ⟨m1 ++ m2, by rw [e2, Array.append_assoc]⟩
  · obtain ⟨m, hn, hl⟩ := I.loc
    refine ⟨m, ns m hn, fun i x v e1 e2 e3 => ?_⟩
    obtain ⟨u, r, l⟩ := hl i x v e1 e2 e3
    refine ⟨u, r, ?_⟩
    rcases l with l | ⟨k, c, e, z⟩
    · exact .inl l
    · exact .inr ⟨k, c, e, cellK x c e _ z⟩
  · obtain ⟨v, z⟩ := I.cell x c e
    exact ⟨v, cellK x c e v z⟩
  · obtain ⟨m, ⟨o, _, _, ho, _⟩, _⟩ := I.loc
    exact free _ o (fun z => (hch _ z).2.1 rfl) ho I.free
  · obtain ⟨v, o, ho, hd⟩ := I.cell x c e
    exact free c o (fun z => (hch c z).2.2.1 x c e rfl) ho (I.freeC x c e)
  · obtain ⟨e, n, ne, nf, d⟩ := I.pin p hp
    have nch : p.1 ∉ ch := fun z => (hch p.1 z).2.2.2 p hp rfl
    exact ⟨keep p.1 p.2 ne nf nch e n, free p.1 p.2 nch e n, ne, nf, d⟩
/-- .. where the frame's own object is kept too -/
theorem Inv.un {t' : Nat} (I : Inv X pins σ H s) (u : Un X.fs [] H H' s.heap h') (hok : HOk X.prog X.w H' h') : Inv X pins σ H' { s with heap := h', toks := t' } := by
  obtain ⟨m, ⟨o, es, ep, ho, r⟩, _⟩ := id I.loc
  obtain ⟨sl, hL⟩ := u.any ho I.free (by simp)
  exact I.step (g' := s.gens) (d' := s.drawn) (ch := []) (fun _ z => nomatch z) (fun b o _ hb _ e n => u.keep b o e n hb (by simp)) (fun b o _ hb _ e n => u.slot b o e n hb (by simp)) (fun b o _ e n => u.free b o e n (by simp)) (fun b o _ e => u.there b o e (by simp)) u.tups u.frzs u.tbls (fun m' hm => by
    obtain ⟨o', es', ep', ho', r'⟩ := hm
    rw [ho] at ho'; cases ho'
    exact ⟨_, es', ep', hL, r'⟩) hok I.bare
/-- behind a call (or a comprehension's block): the slots of this frame may have changed too, the records at ch may have turned -/
theorem Inv.call {g' : Array GenState} {t' : Nat} {d' : Drawn} {ch : List Addr} (I : Inv X pins σ H s) (u : Un (frs X.stack) ch H H' s.heap h') (hok : HOk X.prog X.w H' h') (hg : AllBare g')
    (hch : ∀ b ∈ ch, (b ∈ X.ex ∨ X.s₀.heap.objs.size ≤ b) ∧ b ≠ X.env.locals ∧ (∀ x c, X.env.cells.lookup x = some c → c ≠ b) ∧ ∀ p ∈ X.pn ++ pins, p.1 ≠ b) :
    Inv X pins σ H' { s with heap := h', gens := g', drawn := d', toks := t' } := by
  obtain ⟨m, ⟨o, es, ep, ho, r⟩, _⟩ := id I.loc
  obtain ⟨sl, hL⟩ := u.any ho I.free fun z => (hch _ z).2.1 rfl
  exact I.step (ch := ch) hch (fun b o hL hb hc e n => u.keep b o e n (fun z => (List.mem_cons.mp (I.stkSub b z)).elim hL hb) hc) (fun b o _ _ hc e n => u.any e n hc) (fun b o hc e n => u.free b o e n hc) (fun b o hc e => u.there b o e hc) u.tups u.frzs u.tbls (fun m' hm => by
    obtain ⟨o', es', ep', ho', r'⟩ := hm
    rw [ho] at ho'; cases ho'
    exact ⟨_, es', ep', hL, r'⟩) hok hg
/-- an untracked record of ours (an iterator) has turned -/
theorem Inv.turned {t' : Nat} {it : Addr} (I : Inv X pins σ H s) (k : ∀ b o, b ≠ it → s.heap.get? b = some o → h'.get? b = some o) (hn : H it = none) (hL : it ≠ X.env.locals)
    (h1 : it ∈ X.ex ∨ X.s₀.heap.objs.size ≤ it) (h2 : ∀ x c, X.env.cells.lookup x = some c → c ≠ it) (h3 : ∀ p ∈ X.pn ++ pins, p.1 ≠ it) : Inv X pins σ H { s with heap := h', toks := t' } := by
  have nit : ∀ b u, H b = some u → b ≠ it := fun b u e z => by rw [z, hn] at e; cases e
  refine I.step (g' := s.gens) (d' := s.drawn) (ch := [it]) (fun b hb => ?_) (fun b o _ _ hc e _ => k b o (fun z => hc (by simp [z])) e) (fun b o _ _ hc e _ => ⟨o.slots, k b o (fun z => hc (by simp [z])) e⟩) (fun _ _ _ _ n => n)
    (fun b o hc e => ⟨o, k b o (fun z => hc (by simp [z])) e⟩) (fun _ _ e => e) (fun _ _ _ e => e) (fun b ps e => ⟨#[], by rw [e]; simp⟩) (fun m hm => ?_) (fun b u e => ?_) I.bare
  · have e : b = it := by simpa using hb
    subst e
    exact ⟨h1, hL, h2, h3⟩
  · obtain ⟨o, es, ep, ho, r⟩ := hm
    exact ⟨o, es, ep, k _ o (Ne.symm hL) ho, r⟩
  · refine (I.hok b u e).stay (fun c v hc q => k c v ?_ q) (fun _ q => q) fun _ _ q => q
    rcases hc with z | z
    · rw [z]; exact nit b u e
    · exact nit c _ z
theorem Inv.tok (I : Inv X pins σ H s) (t : Nat) : Inv X pins σ H { s with toks := t } := I.un (h' := s.heap) (t' := t) Un.refl I.hok
/-- all objects kept -/
theorem Inv.kept {t' : Nat} (I : Inv X pins σ H s) (k : ∀ b u, s.heap.get? b = some u → h'.get? b = some u) : Inv X pins σ H { s with heap := h', toks := t' } := I.un (Un.kept k) (I.hok.kept k)
/-- a new object laid and tracked -/
theorem Inv.laid {a : Addr} {o : HO} {t' : Nat} (I : Inv X pins σ H s) (k : ∀ b u, s.heap.get? b = some u → h'.get? b = some u) (hp : s.heap.objs.size ≤ a) (new : ObjOk X.prog X.w (upd H a o) h' a o) :
    Inv X pins σ (upd H a o) { s with heap := h', toks := t' } := I.un (Un.laid k hp (I.hok.fresh hp)) (I.hok.laid k hp new)
/-- an object written -/
theorem Inv.write {x e : Addr} {o : HO} {t' : Nat} (I : Inv X pins σ H s) (mu : Mut (H x)) (he : e = x ∨ H e = some (.own x)) (k : ∀ b u, b ≠ e → s.heap.get? b = some u → h'.get? b = some u) (heo : ∃ u, h'.get? e = some u)
    (new : ObjOk X.prog X.w (upd H x o) h' x o) : Inv X pins σ (upd H x o) { s with heap := h', toks := t' } := I.un (Un.write mu he k heo) (I.hok.write mu he k heo new)
theorem Inv.pins_of {pins' : List (Addr × Obj)} (I : Inv X pins σ H s) (h : ∀ p ∈ pins', s.heap.get? p.1 = some p.2 ∧ H p.1 = none ∧ p.1 ≠ X.env.locals ∧ p.1 ∉ X.fs ∧ ∀ v, p.2.data ≠ .cell v) : Inv X pins' σ H s :=
  ⟨I.ok, I.os, I.bare, I.base, I.loc, I.cell, I.free, I.freeC, fun p hp => (List.mem_append.mp hp).elim (fun z => I.pin p (List.mem_append_left _ z)) (h p), I.hok, I.len⟩

theorem nodup_ix {N : List Str} (hN : N.Nodup) {i j : Nat} {x : Str} (a : N[i]? = some x) (b : N[j]? = some x) : i = j := by
  obtain ⟨h1, e1⟩ := List.getElem?_eq_some_iff.mp a
  obtain ⟨h2, e2⟩ := List.getElem?_eq_some_iff.mp b
  exact (List.getElem_inj hN).mp (e1.trans e2.symm)

/-- a name is stored; what changed -/
theorem store_ok2 {M : Model} {A : Around} {E : Value → Shared → Prop} {i : Nat} {x : Str} {v : V} {u : Value} {Q : Unit → Shared → Prop} (I : Inv X pins σ H s) (hN : X.N.Nodup) (hi : X.N[i]? = some x) (hx : Loc X.env.scope x) (r : RelV v u)
    (h : ∀ s', Inv X pins (σ.set i (some v)) H s' → (∃ a, Heap.SameBut a s.heap s'.heap ∧ (a = X.env.locals ∨ X.env.cells.lookup x = some a)) → Q () s') (hf : X.fn x = true ∨ X.env.scope.names.lookup x = some .local := by first | exact .inl rfl | exact .inr rfl | assumption) : wpAny M A (storeName X.env x u) Q E s := by
  obtain ⟨m, hn, hl⟩ := id I.loc
  have hcls : (X.env.scope.kind == .class || (X.env.scope.kind == .module && X.env.locals != X.env.globals)) = false := by rw [I.ok.kind]; rfl
  have hiσ : i < σ.length := by rw [I.len]; exact (List.getElem?_eq_some_iff.mp hi).1
  have cne := I.cne
  have tracked : ∀ {a : Addr} {h' : Heap}, (∃ o, s.heap.get? a = some o ∧ H a = none) → Heap.SameBut a s.heap h' → HOk X.prog X.w H h' := fun {a h'} ha hs b ob e => by
    obtain ⟨_, _, hfree⟩ := ha
    refine (I.hok b ob e).stay (fun c w' hc q => (hs.2 c ?_).trans q) (fun _ q => q) fun _ _ q => q
    rintro rfl
    rcases hc with rfl | hc
    · rw [hfree] at e; cases e
    · rw [hfree] at hc; cases hc
  rcases hx with hk | hk
  · refine wpAny_storeName_local hk hn (fun h' hn' hs => ?_) hcls
    obtain ⟨oL, _, _, hoL, _⟩ := id hn
    refine h _ ⟨I.ok, I.os, I.bare, ⟨fun b o e n hb hx => ?_, fun b o e n hb hx => ?_, I.base.free, fun b o e hx => ?_, I.base.tups, I.base.frzs, I.base.tbls⟩, ⟨_, hn', fun j y v' e1 e2 e3 => ?_⟩, fun y c e => ?_, I.free, I.freeC, fun p hp => ?_, tracked ⟨oL, hoL, I.free⟩ hs, by simpa using I.len⟩ ⟨_, hs, .inl rfl⟩
    · exact (hs.2 b (Nat.ne_of_lt (Nat.lt_of_lt_of_le (Heap.lt_size e) I.ok.above))).trans (I.base.keep b o e n hb hx)
    · obtain ⟨sl, e1⟩ := I.base.slot b o e n hb hx
      exact ⟨sl, (hs.2 b (Nat.ne_of_lt (Nat.lt_of_lt_of_le (Heap.lt_size e) I.ok.above))).trans e1⟩
    · obtain ⟨o', e1⟩ := I.base.there b o e hx
      exact ⟨o', (hs.2 b (Nat.ne_of_lt (Nat.lt_of_lt_of_le (Heap.lt_size e) I.ok.above))).trans e1⟩
    · by_cases hj : j = i
      · subst hj
        rw [hi] at e1; cases e1
        rw [List.getElem?_set_self hiσ] at e2
        cases e2
        exact ⟨u, r, .inl ⟨hk, by simp⟩⟩
      · rw [List.getElem?_set_ne (Ne.symm hj)] at e2
        obtain ⟨u', r', q⟩ := hl j y v' e1 e2 e3
        refine ⟨u', r', ?_⟩
        rcases q with ⟨k, e⟩ | ⟨k, c, e, z⟩
        · refine .inl ⟨k, ?_⟩
          have : y ≠ x := fun e => hj (nodup_ix hN e1 (e ▸ hi))
          simp [this, e]
        · exact .inr ⟨k, c, e, z.sameBut hs (cne y c e)⟩
    · obtain ⟨w', z⟩ := I.cell y c e
      exact ⟨w', z.sameBut hs (cne y c e)⟩
    · obtain ⟨e, n, ne, nf, d⟩ := I.pin p hp
      exact ⟨(hs.2 p.1 ne).trans e, n, ne, nf, d⟩
  · have hfn : X.fn x = true := by
      rcases hf with z | z
      · exact z
      · rw [z] at hk; cases hk
    obtain ⟨c, hc⟩ := I.ok.has x (.inl hk)
    obtain ⟨w', z⟩ := I.cell x c hc
    refine wpAny_storeName_cell I.ok.kind hk hc z (fun h' hc' hs => ?_)
    obtain ⟨oc, hoc, hocd⟩ := id z
    refine h { s with heap := h' } ⟨I.ok, I.os, I.bare, ⟨fun b o e n hb hx => ?_, fun b o e n hb hx => ?_, I.base.free, fun b o e hx => ?_, I.base.tups, I.base.frzs, I.base.tbls⟩, ⟨m, hn.sameBut hs (Ne.symm (cne x c hc)), fun j y v' e1 e2 e3 => ?_⟩, fun y c' e => ?_, I.free, I.freeC, fun p hp => ?_, tracked ⟨oc, hoc, I.freeC x c hc⟩ hs, by simpa using I.len⟩ ⟨c, hs, .inr hc⟩
    · exact (hs.2 b (Nat.ne_of_lt (Nat.lt_of_lt_of_le (Heap.lt_size e) (I.ok.cab x c hfn hc)))).trans (I.base.keep b o e n hb hx)
    · obtain ⟨sl, e1⟩ := I.base.slot b o e n hb hx
      exact ⟨sl, (hs.2 b (Nat.ne_of_lt (Nat.lt_of_lt_of_le (Heap.lt_size e) (I.ok.cab x c hfn hc)))).trans e1⟩
    · obtain ⟨o', e1⟩ := I.base.there b o e hx
      exact ⟨o', (hs.2 b (Nat.ne_of_lt (Nat.lt_of_lt_of_le (Heap.lt_size e) (I.ok.cab x c hfn hc)))).trans e1⟩
    · by_cases hj : j = i
      · subst hj
        rw [hi] at e1; cases e1
        rw [List.getElem?_set_self hiσ] at e2
        cases e2
        exact ⟨u, r, .inr ⟨.inl hk, c, hc, hc'⟩⟩
      · rw [List.getElem?_set_ne (Ne.symm hj)] at e2
        obtain ⟨u', r', q⟩ := hl j y v' e1 e2 e3
        refine ⟨u', r', ?_⟩
        rcases q with q | ⟨k, c', e, z'⟩
        · exact .inl q
        · refine .inr ⟨k, c', e, z'.sameBut hs ?_⟩
          rintro rfl
          exact hj (nodup_ix hN e1 (I.ok.inj _ _ _ e hc ▸ hi))
    · by_cases hcc : c' = c
      · subst hcc; exact ⟨_, hc'⟩
      · obtain ⟨w2, z2⟩ := I.cell y c' e
        exact ⟨w2, z2.sameBut hs hcc⟩
    · obtain ⟨e, n, ne, nf, d⟩ := I.pin p hp
      refine ⟨(hs.2 p.1 ?_).trans e, n, ne, nf, d⟩
      intro q
      rw [q, hoc] at e
      have q' : oc = p.2 := Option.some.inj e
      exact d w' (by rw [← q']; exact hocd)
theorem store_ok {M : Model} {A : Around} {E : Value → Shared → Prop} {i : Nat} {x : Str} {v : V} {u : Value} {Q : Unit → Shared → Prop} (I : Inv X pins σ H s) (hN : X.N.Nodup) (hi : X.N[i]? = some x) (hx : Loc X.env.scope x) (r : RelV v u)
    (h : ∀ s', Inv X pins (σ.set i (some v)) H s' → Q () s') (hf : X.fn x = true ∨ X.env.scope.names.lookup x = some .local := by first | exact .inl rfl | exact .inr rfl | assumption) : wpAny M A (storeName X.env x u) Q E s :=
  store_ok2 I hN hi hx r (fun s' I' _ => h s' I') hf
end
/-- an exception: its class, its own dict's address (where it has one), the abstract heap behind it -/
abbrev XK := Value → Option Addr → Hp → Prop
abbrev St := List (Option V)
abbrev VK := V → Hp → Prop
/-- an expression's reading; a test's; an argument list's -/
abbrev TE := St → Hp → VK → Prop
abbrev TT := St → Hp → (Bool → Hp → Prop) → Prop
abbrev TA := St → Hp → (List V → Hp → Prop) → Prop
/-- what is wanted behind a statement -/
structure Ends where
  nx : St → Hp → Prop
  rt : VK
  bk : St → Hp → Prop := fun _ _ => False
  ct : St → Hp → Prop := fun _ _ => False
abbrev TS := Ends → St → Hp → Prop

def EP (X : Cx) (pins : List (Addr × Obj)) (σ : St) (Q : VK) (u : Value) (s' : Shared) : Prop := ∃ v H', Inv X pins σ H' s' ∧ RelV v u ∧ Q v H'
def TP (X : Cx) (pins : List (Addr × Obj)) (σ : St) (Q : Bool → Hp → Prop) (b : Bool) (s' : Shared) : Prop := ∃ H', Inv X pins σ H' s' ∧ Q b H'
def AP (X : Cx) (pins : List (Addr × Obj)) (σ : St) (Q : List V → Hp → Prop) (us : List Value) (s' : Shared) : Prop := ∃ vs H', Inv X pins σ H' s' ∧ Vals vs us ∧ Q vs H'
def SP (X : Cx) (pins : List (Addr × Obj)) (D : Ends) (f : Flow) (s' : Shared) : Prop :=
  match f with
  | .next => ∃ σ' H', Inv X pins σ' H' s' ∧ D.nx σ' H'
  | .brk => ∃ σ' H', Inv X pins σ' H' s' ∧ D.bk σ' H'
  | .cont => ∃ σ' H', Inv X pins σ' H' s' ∧ D.ct σ' H'
  | .ret u => ∃ v σ' H', Inv X pins σ' H' s' ∧ RelV v u ∧ D.rt v H'

def PE (X : Cx) (e : Expr) (t : TE) : Prop :=
  ∀ (pins : List (Addr × Obj)) (s : Shared) (σ : St) (H : Hp) (Q : VK), Inv X pins σ H s → t σ H Q → wpAny (model X.prog X.w) X.A (eval e X.env) (EP X pins σ Q) X.xe s
def PT (X : Cx) (e : Expr) (t : TT) : Prop :=
  ∀ (pins : List (Addr × Obj)) (s : Shared) (σ : St) (H : Hp) (Q : Bool → Hp → Prop), Inv X pins σ H s → t σ H Q → wpAny (model X.prog X.w) X.A (isTrue e X.env (eval e X.env)) (TP X pins σ Q) X.xe s
/-- a test whatever its 'whole' is (and, or) -/
def PW (X : Cx) (e : Expr) (t : TT) : Prop :=
  ∀ (whole : Sem Value) (pins : List (Addr × Obj)) (s : Shared) (σ : St) (H : Hp) (Q : Bool → Hp → Prop), Inv X pins σ H s → t σ H Q → wpAny (model X.prog X.w) X.A (isTrue e X.env whole) (TP X pins σ Q) X.xe s
theorem PW.pt {X : Cx} {e : Expr} {t : TT} (h : PW X e t) : PT X e t := h _
/-- an argument list (no star), from the left -/
def PA (X : Cx) (es : List Expr) (t : TA) : Prop :=
  ∀ (pos : Pos) (pins : List (Addr × Obj)) (s : Shared) (σ : St) (H : Hp) (Q : List V → Hp → Prop), Inv X pins σ H s → t σ H Q → wpAny (model X.prog X.w) X.A (spliced (backTo pos (starEach es X.env))) (AP X pins σ Q) X.xe s
def PS (X : Cx) (st : Stmt) (t : TS) : Prop :=
  ∀ (pins : List (Addr × Obj)) (s : Shared) (σ : St) (H : Hp) (D : Ends), Inv X pins σ H s → t D σ H → wpAny (model X.prog X.w) X.A (exec st X.env) (SP X pins D) X.xe s
def PSs (X : Cx) (st : List Stmt) (t : TS) : Prop :=
  ∀ (pins : List (Addr × Obj)) (s : Shared) (σ : St) (H : Hp) (D : Ends), Inv X pins σ H s → t D σ H → wpAny (model X.prog X.w) X.A (execs st X.env) (SP X pins D) X.xe s
/-- weaken the end -/
theorem thn {α : Type} {t : Sem α} {Q Q' : α → Shared → Prop} {M : Model} {A : Around} {E : Value → Shared → Prop} {s : Shared} (h : wpAny M A t Q E s) (hQ : ∀ a s, Q a s → Q' a s) : wpAny M A t Q' E s := wpAny_mono h hQ fun _ _ x => x
end L2
namespace L2
open PySem PySem.Spec PyProof.Rows
section
variable {X : Cx}
/-- two expressions in a row -/
theorem bin {a b : Expr} {ta tb : TE} (ha : PE X a ta) (hb : PE X b tb) {pins : List (Addr × Obj)} {s : Shared} {σ : St} {H : Hp} {R : V → V → Hp → Prop} (I : Inv X pins σ H s) (h : ta σ H fun x H1 => tb σ H1 fun y H2 => R x y H2)
    {α : Type} {Q : α → Shared → Prop} {f : Value → Value → Sem α}
    (hf : ∀ v u s2 x y H2, Inv X pins σ H2 s2 → RelV x v → RelV y u → R x y H2 → wpAny (model X.prog X.w) X.A (f v u) Q X.xe s2) :
    wpAny (model X.prog X.w) X.A (eval a X.env) (fun v s₁ => wpAny (model X.prog X.w) X.A (eval b X.env) (fun u s₂ => wpAny (model X.prog X.w) X.A (f v u) Q X.xe s₂) X.xe s₁) X.xe s := by
  refine thn (ha pins s σ H _ I h) fun v s1 ⟨x, H1, I1, r1, q1⟩ => ?_
  refine thn (hb pins s1 σ H1 _ I1 q1) fun u s2 ⟨y, H2, I2, r2, q2⟩ => ?_
  exact hf v u s2 x y H2 I2 r1 r2 q2

def tVar (i : Nat) : TE := fun σ H Q => ∃ v, σ[i]? = some (some v) ∧ Q v H
def tC (v : V) : TE := fun _ H Q => Q v H
theorem pe_var {i : Nat} {x : Str} {pos : Pos} (hN : X.N[i]? = some x) (hv : Vis X.env.scope x) (hd : (x == ("__debug__" : Str)) = false := by decide) (hcd : (x == ("__classdict__" : Str)) = false := by decide) : PE X (.Name x pos) (tVar i) := by
  intro pins s σ H Q I h
  obtain ⟨v, e, h⟩ := h
  obtain ⟨m, hn, hl⟩ := I.loc
  obtain ⟨u, r, l⟩ := hl i x v hN e hv
  have fin : EP X pins σ Q u s := ⟨v, H, I, r, h⟩
  rcases l with ⟨hk, hm⟩ | ⟨hk, c, hc, hcell⟩
  · exact wpAny_Name (wpAny_loadName_local I.ok.kind hk hn hm fin) hd
  · rcases hk with hk | hk
    · exact wpAny_Name (wpAny_loadName_cell I.ok.kind hk hc hcell fin) hd
    · exact wpAny_Name (wpAny_loadName_free I.ok.kind hk hc hcell fin hcd) hd
theorem pe_int {i j pos} : PE X (.Constant (.int i) j pos) (tC (.int i)) := fun _ _ _ H _ I h => wpAny_Constant_int ⟨.int i, H, I.tok _, ⟨_, rfl⟩, h⟩
theorem pe_bl {b j pos} : PE X (.Constant (.bool b) j pos) (tC (.bl b)) := fun _ _ _ H _ I h => Constant_bool ⟨.bl b, H, I, rfl, h⟩
theorem pe_non {j pos} : PE X (.Constant .none j pos) (tC .non) := fun _ _ _ H _ I h => Constant_none ⟨.non, H, I, rfl, h⟩
theorem pe_str {x j pos} : PE X (.Constant (.str x) j pos) (tC (.str x)) := fun _ _ _ H _ I h => Calls.Constant_str ⟨.str x, H, I.tok _, ⟨_, rfl⟩, h⟩

/-- a global name of the def -/
def Gl (X : Cx) (x : Str) : Prop := X.env.kindOf x = some .globalImplicit
theorem ld_glob {E : Value → Shared → Prop} {pins : List (Addr × Obj)} {s : Shared} {σ : St} {H : Hp} {x : Str} {u : Value} {pos : Pos} {Q : Value → Shared → Prop} (I : Inv X pins σ H s) (hg : Gl X x) (hm : X.mg x = some u) (h : Q u s)
    (hd : (x == ("__debug__" : Str)) = false := by decide) : wpAny (model X.prog X.w) X.A (eval (.Name x pos) X.env) Q E s :=
  Calls.Name_function_global I.ok.kind hg (Calls.loadGlobal_global (by rw [I.ok.glob]; exact I.mod.glob.keeps I.bk) hm h) hd
theorem ld_blt {E : Value → Shared → Prop} {pins : List (Addr × Obj)} {s : Shared} {σ : St} {H : Hp} {x : Str} {u : Value} {pos : Pos} {Q : Value → Shared → Prop} (I : Inv X pins σ H s) (hg : Gl X x) (hm : X.mg x = none) (hv : bootBuiltins x = some u) (h : Q u s)
    (hn : x ≠ "__name__" := by decide) (hd : (x == ("__debug__" : Str)) = false := by decide) : wpAny (model X.prog X.w) X.A (eval (.Name x pos) X.env) Q E s := by
  obtain ⟨mb, h1, h2⟩ := I.mod.blt
  exact Calls.Name_function_global I.ok.kind hg (Calls.loadGlobal_builtin (by rw [I.ok.glob]; exact I.mod.glob.keeps I.bk) hm (by rw [I.ok.blt]; exact h1.keeps I.bk) ((h2 x hn).trans hv) h) hd
/-- a module's constant, a class, a function, as a value -/
theorem pe_glob {x : Str} {v : V} {u : Value} {pos : Pos} (hg : Gl X x) (hm : X.mg x = some u) (r : RelV v u) (hd : (x == ("__debug__" : Str)) = false := by decide) : PE X (.Name x pos) (tC v) :=
  fun _ _ _ H _ I h => ld_glob I hg hm ⟨v, H, I, r, h⟩ hd
theorem pe_bltn {x : Str} {v : V} {u : Value} {pos : Pos} (hg : Gl X x) (hm : X.mg x = none) (hv : bootBuiltins x = some u) (r : RelV v u) (hn : x ≠ "__name__" := by decide) (hd : (x == ("__debug__" : Str)) = false := by decide) : PE X (.Name x pos) (tC v) :=
  fun _ _ _ H _ I h => ld_blt I hg hm hv ⟨v, H, I, r, h⟩ hn hd

variable {a b : Expr} {ta tb : TE} {pos : Pos}
variable {tA tB' : TT} {rest : List Expr}
def tAnd (t u : TT) : TT := fun σ H Q => t σ H fun c H1 => if c = true then u σ H1 Q else Q false H1
def tOr (t u : TT) : TT := fun σ H Q => t σ H fun c H1 => if c = true then Q true H1 else u σ H1 Q
def tNot (t : TT) : TT := fun σ H Q => t σ H fun c H1 => Q (!c) H1
theorem pw_and1 (ha : PT X a tA) : PW X (.BoolOp .And [a] pos) tA := by
  intro wh pins s σ H Q I h
  refine isTrue_and (thn (ha pins s σ H Q I h) fun c s1 e => ?_)
  cases c with
  | true => exact isTrue_and_nil e
  | false => exact e
theorem pw_or1 (ha : PT X a tA) : PW X (.BoolOp .Or [a] pos) tA := by
  intro wh pins s σ H Q I h
  refine isTrue_or (thn (ha pins s σ H Q I h) fun c s1 e => ?_)
  cases c with
  | false => exact isTrue_or_nil e
  | true => exact e
theorem pw_and (ha : PT X a tA) (hb : PW X (.BoolOp .And (b :: rest) pos) tB') : PW X (.BoolOp .And (a :: b :: rest) pos) (tAnd tA tB') := by
  intro wh pins s σ H Q I h
  refine isTrue_and (thn (ha pins s σ H _ I h) fun c s1 ⟨H1, I1, q1⟩ => ?_)
  cases c with
  | true => exact hb wh pins s1 σ H1 Q I1 q1
  | false => exact ⟨H1, I1, q1⟩
theorem pw_or (ha : PT X a tA) (hb : PW X (.BoolOp .Or (b :: rest) pos) tB') : PW X (.BoolOp .Or (a :: b :: rest) pos) (tOr tA tB') := by
  intro wh pins s σ H Q I h
  refine isTrue_or (thn (ha pins s σ H _ I h) fun c s1 ⟨H1, I1, q1⟩ => ?_)
  cases c with
  | true => exact ⟨H1, I1, q1⟩
  | false => exact hb wh pins s1 σ H1 Q I1 q1
theorem pt_not (ha : PT X a tA) : PT X (.UnaryOp .Not a pos) (tNot tA) := by
  intro pins s σ H Q I h
  exact isTrue_not (ha pins s σ H (fun c H1 => Q (!c) H1) I h)
theorem pe_one {op} {t : TE} (h : PE X a t) : PE X (.BoolOp op [a] pos) t := fun pins s σ H Q I hw => BoolOp_one (h pins s σ H Q I hw)
/-- a if t else b -/
def tIf (t : TT) (ta tb : TE) : TE := fun σ H Q => t σ H fun c H1 => if c = true then ta σ H1 Q else tb σ H1 Q
theorem pe_ifExp {c : Expr} (hc : PT X c tA) (ha : PE X a ta) (hb : PE X b tb) : PE X (.IfExp c a b pos) (tIf tA ta tb) := by
  intro pins s σ H Q I h
  refine wpAny_IfExp (thn (hc pins s σ H _ I h) fun d s1 ⟨H1, I1, q1⟩ => ?_)
  cases d with
  | true => exact ha pins s1 σ H1 Q I1 q1
  | false => exact hb pins s1 σ H1 Q I1 q1
end
end L2
namespace L2
open PySem PySem.Spec PyProof.Rows
def SqL (K : PySem.W.Frag) (H : Hp) (a : Addr) (xs : List V) : Prop :=
  Rd H a (.lst xs) ∨
    ∃ (o : Obj) (its : Array Value) (n : Nat), K.lookup a = some o ∧ o.cls = .type "list" ∧ o.dict = none ∧ o.data = .seq its n ∧ its.size ≤ sizeLine ∧ Vals xs its.toList
def SqT (K : PySem.W.Frag) (H : Hp) (a : Addr) (xs : List V) : Prop :=
  Rd H a (.tup xs) ∨
    ∃ (o : Obj) (its : Array Value) (n : Nat), K.lookup a = some o ∧ o.cls = .type "tuple" ∧ o.data = .seq its n ∧ its.size ≤ sizeLine ∧ Vals xs its.toList
def absV : Value → Option V
  | .none => some .non
  | .bool b => some (.bl b)
  | .int i _ => some (.int i)
  | .str x _ => some (.str x)
  | .bytes b _ => some (.byt b)
  | .float b _ => some (.flt b)
  | .ref a => some (.ref a)
  | .type n => some (.ty n)
  | _ => none
theorem RelV.abs {x : V} {u : Value} (r : RelV x u) : absV u = some x := by
  cases x with
  | non => cases r; rfl
  | bl _ => cases r; rfl
  | int _ => obtain ⟨t, rfl⟩ := r; rfl
  | str _ => obtain ⟨t, rfl⟩ := r; rfl
  | byt _ => obtain ⟨t, rfl⟩ := r; rfl
  | flt _ => obtain ⟨t, rfl⟩ := r; rfl
  | ref _ => cases r; rfl
  | ty _ => cases r; rfl
theorem RelV.inj {x y : V} {u : Value} (r : RelV x u) (q : RelV y u) : x = y := Option.some.inj (r.abs.symm.trans q.abs)
theorem Vals.inj : ∀ {xs ys : List V} {us : List Value}, Vals xs us → Vals ys us → xs = ys
  | _, _, _, .nil, .nil => rfl
  | _, _, _, .cons r t, .cons r' t' => by rw [r.inj r', Vals.inj t t']
section
variable {X : Cx} {pins : List (Addr × Obj)} {σ : St} {H : Hp} {s : Shared} {a : Addr} {xs ys : List V}
theorem SqL.of {K : PySem.W.Frag} (h : H a = some (.lst xs)) : SqL K H a xs := .inl (.inl h)
theorem SqT.of {K : PySem.W.Frag} (h : H a = some (.tup xs)) : SqT K H a xs := .inl (.inl h)
theorem Inv.list (I : Inv X pins σ H s) (h : SqL X.K H a xs) : ∃ its : List Value, Vals xs its ∧ PlainL s.heap a its.toArray ∧ xs.length ≤ sizeLine := by
  rcases h with h | ⟨o, its, n, hk, hc, hd, hs, hz, r⟩
  · obtain ⟨z, its, n, r, e⟩ := h.ok I.hok
    exact ⟨its, r, ⟨_, n, e, rfl, rfl, rfl⟩, z⟩
  · refine ⟨its.toList, r, ⟨o, n, I.kIn a o hk, hc, hd, by simpa using hs⟩, ?_⟩
    have e := r.length
    simp only [Array.length_toList] at e
    omega
theorem Inv.tuple (I : Inv X pins σ H s) (h : SqT X.K H a xs) : ∃ its : List Value, Vals xs its ∧ IsTup s.heap a its.toArray ∧ xs.length ≤ sizeLine := by
  rcases h with h | ⟨o, its, n, hk, hc, hs, hz, r⟩
  · obtain ⟨z, its, r, p⟩ := h.ok I.hok
    exact ⟨its, r, p, z⟩
  · refine ⟨its.toList, r, ⟨o, I.kIn a o hk, hc, n, by simpa using hs⟩, ?_⟩
    have e := r.length
    simp only [Array.length_toList] at e
    omega
theorem Inv.list_inj (I : Inv X pins σ H s) (h : SqL X.K H a xs) (h' : SqL X.K H a ys) : xs = ys := by
  obtain ⟨its, r, ⟨o, n, e, _, _, d⟩, _⟩ := I.list h
  obtain ⟨its', r', ⟨o', n', e', _, _, d'⟩, _⟩ := I.list h'
  rw [e] at e'; cases e'
  rw [d] at d'
  injection d' with d1 _
  have : its = its' := by simpa using congrArg Array.toList d1
  subst this
  exact r.inj r'
theorem Inv.tuple_inj (I : Inv X pins σ H s) (h : SqT X.K H a xs) (h' : SqT X.K H a ys) : xs = ys := by
  obtain ⟨its, r, ⟨o, e, _, n, d⟩, _⟩ := I.tuple h
  obtain ⟨its', r', ⟨o', e', _, n', d'⟩, _⟩ := I.tuple h'
  rw [e] at e'; cases e'
  rw [d] at d'
  injection d' with d1 _
  have : its = its' := by simpa using congrArg Array.toList d1
  subst this
  exact r.inj r'
end
abbrev Cx.wish (X : Cx) (E : Value → Shared → Prop) : Cx := { X with xe := E }
/-- no exception leaves -/
abbrev Cx.nox (X : Cx) : Cx := X.wish fun _ _ => False
theorem Cx.Ok.wish {X : Cx} (ok : X.Ok) (E : Value → Shared → Prop) : (X.wish E).Ok :=
  ⟨ok.mod, ok.kind, ok.glob, ok.blt, ok.above, ok.inj, ok.has, ok.cab, ok.hd, ok.frames, ok.stk, ok.exf, ok.bs, ok.bsz, ok.noex, ok.exfs, ok.funs, ok.frf⟩
theorem Cx.Ok.unwish {X : Cx} {E : Value → Shared → Prop} (ok : (X.wish E).Ok) : X.Ok :=
  ⟨ok.mod, ok.kind, ok.glob, ok.blt, ok.above, ok.inj, ok.has, ok.cab, ok.hd, ok.frames, ok.stk, ok.exf, ok.bs, ok.bsz, ok.noex, ok.exfs, ok.funs, ok.frf⟩
section
variable {X : Cx} {pins : List (Addr × Obj)} {σ : St} {H : Hp} {s : Shared} {E : Value → Shared → Prop}
theorem Inv.wish (I : Inv X pins σ H s) (E : Value → Shared → Prop) : Inv (X.wish E) pins σ H s := ⟨I.ok.wish E, I.os, I.bare, I.base, I.loc, I.cell, I.free, I.freeC, I.pin, I.hok, I.len⟩
theorem Inv.unwish (I : Inv (X.wish E) pins σ H s) : Inv X pins σ H s := ⟨I.ok.unwish, I.os, I.bare, I.base, I.loc, I.cell, I.free, I.freeC, I.pin, I.hok, I.len⟩
theorem SP.unwish {D : Ends} {f : Flow} {s' : Shared} (h : SP (X.wish E) pins D f s') : SP X pins D f s' := by
  cases f with
  | next => obtain ⟨σ', H', I, q⟩ := h; exact ⟨σ', H', I.unwish, q⟩
  | brk => obtain ⟨σ', H', I, q⟩ := h; exact ⟨σ', H', I.unwish, q⟩
  | cont => obtain ⟨σ', H', I, q⟩ := h; exact ⟨σ', H', I.unwish, q⟩
  | ret u => obtain ⟨v, σ', H', I, r, q⟩ := h; exact ⟨v, σ', H', I.unwish, r, q⟩
theorem PE.nox {e : Expr} {t : TE} (h : PE X.nox e t) : PE X e t := fun pins s σ H Q I hw =>
  wpAny_mono (h pins s σ H Q (I.wish _) hw) (fun _ _ ⟨v, H', I', r, q⟩ => ⟨v, H', I'.unwish, r, q⟩) fun _ _ z => False.elim z
theorem PT.nox {e : Expr} {t : TT} (h : PT X.nox e t) : PT X e t := fun pins s σ H Q I hw =>
  wpAny_mono (h pins s σ H Q (I.wish _) hw) (fun _ _ ⟨H', I', q⟩ => ⟨H', I'.unwish, q⟩) fun _ _ z => False.elim z
theorem PSs.nox {st : List Stmt} {t : TS} (h : PSs X.nox st t) : PSs X st t := fun pins s σ H D I hw =>
  wpAny_mono (h pins s σ H D (I.wish _) hw) (fun _ _ q => q.unwish) fun _ _ z => False.elim z
end
section
variable {X : Cx} {st : Stmt} {rest : List Stmt} {t u : TS} {e : Expr} {te : TE} {pos : Pos}
def tNext : TS := fun D σ H => D.nx σ H
def tSeq (t u : TS) : TS := fun D σ H => t { D with nx := u D } σ H
theorem pss_nil : PSs X [] tNext := fun _ _ σ H _ I h => wpAny_execs_nil ⟨σ, H, I, h⟩
theorem pss_cons (h1 : PS X st t) (h2 : PSs X rest u) : PSs X (st :: rest) (tSeq t u) := by
  intro pins s σ H D I h
  refine wpAny_execs_cons (thn (h1 pins s σ H { D with nx := u D } I h) fun f s1 q => ?_)
  cases f with
  | next =>
    obtain ⟨σ', H', I', q⟩ := q
    exact h2 pins s1 σ' H' D I' q
  | ret v => exact q
  | brk => exact q
  | cont => exact q
/-- in a def's body nothing is shown -/
theorem Inv.quiet {pins : List (Addr × Obj)} {σ : St} {H : Hp} {s : Shared} (I : Inv X pins σ H s) : interactive X.env = false := by simp [interactive, I.ok.kind]
/-- an expression whose value is dropped -/
def tDrop (te : TE) : TS := fun D σ H => te σ H fun _ H1 => D.nx σ H1
theorem ps_expr (he : PE X e te) (hs : swapsWith e none pos.line X.env = pure false := by rfl) : PS X (.Expr e pos) (tDrop te) := by
  intro pins s σ H D I h
  exact wpAny_Expr_any (thn (he pins s σ H _ I h) fun v s1 ⟨x, H1, I1, r1, q1⟩ => ⟨σ, H1, I1, q1⟩) I.quiet hs
def tRet (te : TE) : TS := fun D σ H => te σ H D.rt
theorem ps_ret (he : PE X e te) : PS X (.Return (some e) pos) (tRet te) := by
  intro pins s σ H D I h
  exact wpAny_Return_some (thn (he pins s σ H _ I h) fun v s1 ⟨x, H1, I1, r1, q1⟩ => ⟨x, σ, H1, I1, r1, q1⟩)
def tIfS (c : TT) (t u : TS) : TS := fun D σ H => c σ H fun b H1 => if b = true then t D σ H1 else u D σ H1
theorem ps_if {c : Expr} {a b : List Stmt} {tc : TT} (hc : PT X c tc) (ha : PSs X a t) (hb : PSs X b u) : PS X (.If c a b pos) (tIfS tc t u) := by
  intro pins s σ H D I h
  refine wpAny_If (thn (hc pins s σ H _ I h) fun d s1 ⟨H1, I1, q1⟩ => ?_)
  cases d with
  | true => exact ha pins s1 σ H1 D I1 q1
  | false => exact hb pins s1 σ H1 D I1 q1
end
abbrev TG := V → St → Hp → (St → Hp → Prop) → Prop
abbrev TGs := List V → St → Hp → (St → Hp → Prop) → Prop
def PG (X : Cx) (target : Expr) (t : TG) : Prop :=
  ∀ (pins : List (Addr × Obj)) (s : Shared) (σ : St) (H : Hp) (v : V) (u : Value) (Q : St → Hp → Prop), Inv X pins σ H s → RelV v u → t v σ H Q →
    wpAny (model X.prog X.w) X.A (assign target X.env u) (fun _ s' => ∃ σ' H', Inv X pins σ' H' s' ∧ Q σ' H') X.xe s
/-- several targets, one after another -/
def PGs (X : Cx) (ts : List Expr) (t : TGs) : Prop :=
  ∀ (pins : List (Addr × Obj)) (s : Shared) (σ : St) (H : Hp) (vs : List V) (us : List Value) (Q : St → Hp → Prop), Inv X pins σ H s → Vals vs us → t vs σ H Q →
    wpAny (model X.prog X.w) X.A (assignInOrder ((assignEach ts X.env).map (·.2)) us) (fun _ s' => ∃ σ' H', Inv X pins σ' H' s' ∧ Q σ' H') X.xe s
/-- o[i] = v, by values -/
abbrev TSet := V → V → V → Hp → (Hp → Prop) → Prop
def PSet (X : Cx) (t : TSet) : Prop :=
  ∀ (pins : List (Addr × Obj)) (s : Shared) (σ : St) (H : Hp) (o i v : V) (ov iv u : Value) (Q : Hp → Prop), Inv X pins σ H s → RelV o ov → RelV i iv → RelV v u → t o i v H Q →
    wpAny (model X.prog X.w) X.A (setItem ov iv u) (fun _ s' => ∃ H', Inv X pins σ H' s' ∧ Q H') X.xe s
section
variable {X : Cx} {pos : Pos}
def gName (i : Nat) : TG := fun v σ H Q => Q (σ.set i (some v)) H
theorem pg_name {i : Nat} {x : Str} (hN : X.N.Nodup) (hi : X.N[i]? = some x) (hx : Loc X.env.scope x) (hf : X.fn x = true ∨ X.env.scope.names.lookup x = some .local := by first | exact .inl rfl | exact .inr rfl | assumption) : PG X (.Name x pos) (gName i) := by
  intro pins s σ H v u Q I r h
  exact wpAny_assign_Name (store_ok I hN hi hx r (fun s' I' => ⟨_, H, I', h⟩) hf)
def gNil : TGs := fun vs σ H Q => vs = [] ∧ Q σ H
def gCons (t : TG) (u : TGs) : TGs := fun vs σ H Q => ∃ v r, vs = v :: r ∧ t v σ H fun σ' H' => u r σ' H' Q
theorem pgs_nil : PGs X [] gNil := by
  intro pins s σ H vs us Q I r h
  obtain ⟨e, h⟩ := h
  subst e
  cases r
  exact assignInOrder_nil ⟨σ, H, I, h⟩
theorem pgs_cons {e : Expr} {es : List Expr} {t : TG} {u : TGs} (h1 : PG X e t) (h2 : PGs X es u)
    (hs : (assignEach (e :: es) X.env).map (·.2) = assign e X.env :: (assignEach es X.env).map (·.2) := by rfl) : PGs X (e :: es) (gCons t u) := by
  intro pins s σ H vs us Q I r h
  obtain ⟨v, vr, e1, h⟩ := h
  subst e1
  cases r with
  | cons r rr =>
    rw [hs]
    refine assignInOrder_cons (thn (h1 pins s σ H _ _ _ I r h) fun _ s1 ⟨σ1, H1, I1, q1⟩ => ?_)
    exact h2 pins s1 σ1 H1 _ _ Q I1 rr q1
/-- (a, b, ..) = a tuple of that length -/
def gTup (K : PySem.W.Frag) (n : Nat) (t : TGs) : TG := fun v σ H Q => ∃ a xs, v = .ref a ∧ SqT K H a xs ∧ xs.length = n ∧ t xs σ H Q
theorem pg_tup {es : List Expr} {k : Nat} {t : TGs} {n : Nat} (hc : X.calm = true) (h : PGs X es t)
    (hn : (assignEach es X.env).length = n := by rfl) (hst : (assignEach es X.env).findIdx? (·.1) = none := by rfl) : PG X (.Tuple es k pos) (gTup X.K n t) := by
  intro pins s σ H v u Q I r hw
  obtain ⟨a, xs, e1, hq, hl, hw⟩ := hw
  subst e1
  cases r
  obtain ⟨its, rv, ht, hz⟩ := I.tuple hq
  refine assign_Tuple_tuple (I.ok.hd hc) ht (by simp [hn, ← hl, rv.length]) hst fun h' hx => ?_
  have I1 : Inv X pins σ H { s with heap := h' } := I.kept (t' := s.toks) fun b o e => hx b o (Nat.ne_of_lt (Heap.lt_size e)) e
  exact h pins _ σ H xs _ Q I1 (by simpa using rv) hw
/-- o[i] = .. -/
def gSub (to ti : TE) (t : TSet) : TG := fun v σ H Q => to σ H fun o H1 => ti σ H1 fun i H2 => t o i v H2 fun H3 => Q σ H3
theorem pg_sub {o i : Expr} {to ti : TE} {t : TSet} (ho : PE X o to) (hi : PE X i ti) (hs : PSet X t)
    (ha : ∀ v, assign (.Subscript o i pos) X.env v = (do
      let ov ← holding [v] (eval o X.env)
      let iv ← holding [v, ov] (eval i X.env)
      standAt pos
      holding [v, ov, iv] (setItem ov iv v)
      release [v, ov, iv] []) := by intro _; rfl) : PG X (.Subscript o i pos) (gSub to ti t) := by
  intro pins s σ H v u Q I r h
  rw [ha]
  refine wpAny_bind (wpAny_holding (thn (ho pins s σ H _ I h) fun ov s1 ⟨x, H1, I1, r1, q1⟩ => ?_))
  refine wpAny_bind (wpAny_holding (thn (hi pins s1 σ H1 _ I1 q1) fun iv s2 ⟨y, H2, I2, r2, q2⟩ => ?_))
  refine wpAny_bind (wpAny_standAt (wpAny_bind (wpAny_holding (thn (hs pins s2 σ H2 x y v ov iv u _ I2 r1 r2 r q2) fun _ s3 ⟨H3, I3, q3⟩ => ?_))))
  exact wpAny_release ⟨σ, H3, I3, q3⟩
/-- target = value -/
def tAsg (te : TE) (g : TG) : TS := fun D σ H => te σ H fun x H1 => g x σ H1 D.nx
theorem ps_asg {tg e : Expr} {te : TE} {g : TG} (he : PE X e te) (hg : PG X tg g) (hs : swapsWithSole [tg] e pos.line X.env = pure false := by rfl) (hw : swappedStores [tg] e X.env = pure none := by rfl)
    (h1 : (assignEach [tg] X.env).map (·.2) = [assign tg X.env] := by rfl) : PS X (.Assign [tg] e pos) (tAsg te g) := by
  intro pins s σ H D I h
  refine wpAny_Assign_stores (thn (he pins s σ H _ I h) fun v s1 ⟨x, H1, I1, r1, q1⟩ => ?_) hs hw
  rw [h1]
  exact thn (hg pins s1 σ H1 x v _ I1 r1 q1) fun _ s2 q => q
/-- name = value -/
theorem ps_set {i : Nat} {x : Str} {e : Expr} {te : TE} {pos' : Pos} (hN : X.N.Nodup) (hi : X.N[i]? = some x) (hx : Loc X.env.scope x) (he : PE X e te) (hs : swapsWith e (some (.Name x pos')) pos.line X.env = pure false := by rfl) (hf : X.fn x = true ∨ X.env.scope.names.lookup x = some .local := by first | exact .inl rfl | exact .inr rfl | assumption) :
    PS X (.Assign [.Name x pos'] e pos) (tAsg te (gName i)) := by
  intro pins s σ H D I h
  refine wpAny_Assign_Name (thn (he pins s σ H _ I h) fun v s1 ⟨y, H1, I1, r1, q1⟩ => ?_) hs
  exact store_ok I1 hN hi hx r1 (fun s2 I2 => ⟨_, H1, I2, q1⟩) hf
end
section
variable {X : Cx} {pos : Pos}
/-- the invariant W with its measure -/
def tWhile (c : TT) (tb : TS) : TS := fun D σ H => ∃ W : Nat → St → Hp → Prop, (∃ m, W m σ H) ∧ ∀ m σ H, W m σ H →
  c σ H fun b H1 => if b = true then ∃ N : St → Hp → Prop, (∀ σ' H', N σ' H' → ∃ m', m' < m ∧ W m' σ' H') ∧ tb { D with nx := N, ct := N, bk := D.nx } σ H1 else D.nx σ H1
theorem ps_while {c : Expr} {body : List Stmt} {tc : TT} {tb : TS} (hp : PassesOwn (model X.prog X.w) X.A X.env X.xe) (hc : PT X c tc) (hb : PSs X body tb) : PS X (.While c body [] pos) (tWhile tc tb) := by
  intro pins s σ H D I h
  obtain ⟨W, ⟨m0, w0⟩, turn⟩ := h
  refine wpAny_While (codeAny_whileLoop (fun n s' => ∃ σ' H', Inv X pins σ' H' s' ∧ W n σ' H') ?_ m0 ⟨σ, H, I, w0⟩)
  rintro n s1 ⟨σ1, H1, I1, w1⟩
  refine wpAny_passesOwn hp (thn (hc pins s1 σ1 H1 _ I1 (turn n σ1 H1 w1)) fun b s2 ⟨H2, I2, q2⟩ => ?_)
  cases b with
  | true =>
    obtain ⟨N, hN, q2⟩ := q2
    rw [if_pos rfl]
    refine wpAny_passesOwn hp (thn (hb pins s2 σ1 H2 _ I2 q2) fun f s3 q3 => ?_)
    cases f with
    | next =>
      obtain ⟨σ3, H3, I3, n3⟩ := q3
      obtain ⟨m', hm, w3⟩ := hN σ3 H3 n3
      exact ⟨m', hm, σ3, H3, I3, w3⟩
    | cont =>
      obtain ⟨σ3, H3, I3, n3⟩ := q3
      obtain ⟨m', hm, w3⟩ := hN σ3 H3 n3
      exact ⟨m', hm, σ3, H3, I3, w3⟩
    | brk => exact q3
    | ret v => exact q3
  | false =>
    rw [if_neg Bool.false_ne_true]
    exact wpAny_execs_nil ⟨σ1, H2, I2, q2⟩
end
/-- at turn i: it yields x (the heap may grow), or it stops -/
structure It where
  go : Nat → Hp → Prop
  yld : Nat → Hp → V → Hp → Prop
  stop : Nat → Hp → Prop
/-- the iterator's own objects may turn: they are not the frame's, not pinned, younger than the entry (or a comprehension's own) -/
def FpOk (X : Cx) (pins : List (Addr × Obj)) (H : Hp) (b : Addr) : Prop :=
  H b = none ∧ b ≠ X.env.locals ∧ b ∉ X.fs ∧ (b ∈ X.ex ∨ X.s₀.heap.objs.size ≤ b) ∧ (∀ x c, X.env.cells.lookup x = some c → c ≠ b) ∧ ∀ p ∈ X.pn ++ pins, p.1 ≠ b
theorem Inv.fpOk {X : Cx} {pins : List (Addr × Obj)} {σ : St} {H H' : Hp} {s : Shared} {b : Addr} (I : Inv X pins σ H s) (hb : s.heap.objs.size ≤ b) (hn : H' b = none) : FpOk X pins H' b := by
  refine ⟨hn, Nat.ne_of_gt (Nat.lt_of_lt_of_le I.lt hb), I.nofs hb, .inr (Nat.le_trans I.sz hb), fun x c e z => ?_, fun p hp z => ?_⟩
  · obtain ⟨v, q⟩ := I.cell x c e
    exact absurd (Nat.lt_of_lt_of_le q.lt (by rw [z]; exact hb)) (Nat.lt_irrefl _)
  · exact absurd (Nat.lt_of_lt_of_le (Heap.lt_size (I.pin p hp).1) (by rw [z]; exact hb)) (Nat.lt_irrefl _)
structure Turn (P : Program) (w : World) (K : PySem.W.Frag) (tg : Expr) (J : It) (fp : List Addr) (it : Addr) (tn : Nat → Heap → Prop) : Prop where
  mem : it ∈ fp
  obj : ∀ i h, tn i h → ∀ b ∈ fp, ∃ o, h.get? b = some o ∧ ∀ v, o.data ≠ .cell v
  keep : ∀ i h h', tn i h → (∀ b ∈ fp, ∀ o, h.get? b = some o → h'.get? b = some o) → tn i h'
  item : ∀ (X : Cx), X.prog = P → X.w = w → X.K = K → X.calm = true → ∀ (i : Nat) (pins : List (Addr × Obj)) (s : Shared) (σ : St) (H : Hp) (E : Value → Shared → Prop), Inv X pins σ H s → (∀ b ∈ fp, FpOk X pins H b) → tn i s.heap → J.go i H →
    wpAny (model P w) X.A (pyNext (.ref it)) (fun r s1 => ∃ u, r = some u ∧
      wpAny (model P w) X.A (letOwnedTupleGo tg (.ref it) u) (fun _ s2 => ∃ x H', Inv X pins σ H' s2 ∧ RelV x u ∧ J.yld i H x H' ∧ tn (i + 1) s2.heap ∧ ∀ b ∈ fp, H' b = none) E s1) E s
  done : ∀ (X : Cx), X.prog = P → X.w = w → X.K = K → X.calm = true → ∀ (i : Nat) (pins : List (Addr × Obj)) (s : Shared) (σ : St) (H : Hp) (E : Value → Shared → Prop), Inv X pins σ H s → (∀ b ∈ fp, FpOk X pins H b) → tn i s.heap → J.stop i H →
    wpAny (model P w) X.A (pyNext (.ref it)) (fun r s1 => r = none ∧ Inv X pins σ H s1) E s
  self : ∀ (A : Around) (i : Nat) (s : Shared) (Q : Value → Shared → Prop) (E : Value → Shared → Prop), tn i s.heap → Q (.ref it) s → wpAny (model P w) A (pyIter (.ref it)) Q E s
abbrev TI := St → Hp → (It → Hp → Prop) → Prop
/-- an iterator has come -/
def PIE (X : Cx) (pins : List (Addr × Obj)) (σ : St) (tg : Expr) (R : It → Hp → Prop) (itv : Value) (s2 : Shared) : Prop :=
  ∃ (it : Addr) (fp : List Addr) (tn : Nat → Heap → Prop) (J : It) (H' : Hp), itv = .ref it ∧ Inv X pins σ H' s2 ∧ Turn X.prog X.w X.K tg J fp it tn ∧ tn 0 s2.heap ∧ (∀ b ∈ fp, FpOk X pins H' b) ∧ R J H'
def PI (X : Cx) (tg iter : Expr) (wi : TI) : Prop :=
  ∀ (pins : List (Addr × Obj)) (s : Shared) (σ : St) (H : Hp) (R : It → Hp → Prop), Inv X pins σ H s → wi σ H R →
    wpAny (model X.prog X.w) X.A (eval iter X.env) (fun v s1 => wpAny (model X.prog X.w) X.A (pyIter v) (PIE X pins σ tg R) X.xe s1) X.xe s

/-- the step ahead of the store is nothing for an iterator that keeps no tuple -/
theorem go_of {M : Model} {A : Around} {E : Value → Shared → Prop} {s : Shared} {tg : Expr} {it : Addr} {u : Value} {o : Obj} {n : String} {vs : Array Value} {Q : Unit → Shared → Prop} (ho : s.heap.get? it = some o) (hc : o.cls = .type n) (hd : o.data = .fields vs)
    (hn : ["enumerate", "zip", "dict_itemiterator", "dict_reverseitemiterator", "odict_iterator", "itertools.zip_longest", "itertools.pairwise"].contains n = false) (hQ : Q () s) : wpAny M A (letOwnedTupleGo tg (.ref it) u) Q E s := by
  unfold letOwnedTupleGo
  cases tg <;> first
    | exact wpAny_pure hQ
    | (cases u <;> first
        | exact wpAny_pure hQ
        | (refine wpAny_bind (wpAny_load ho ?_)
           rw [hc, hd]
           show wpAny M A (if (["enumerate", "zip", "dict_itemiterator", "dict_reverseitemiterator", "odict_iterator", "itertools.zip_longest", "itertools.pairwise"].contains n && vs[0]? == some (rawInt _)) = true then _ else _) Q E s
           rw [if_neg (by intro h; rw [hn, Bool.false_and] at h; cases h)]
           exact wpAny_pure hQ))

/-- the list at a, as it stands at each turn (a loop may append to it) -/
def Itl (K : PySem.W.Frag) (a : Addr) : It :=
  ⟨fun i H => ∃ xs x, SqL K H a xs ∧ xs[i]? = some x, fun i H x H' => H' = H ∧ ∀ xs, SqL K H a xs → xs[i]? = some x, fun i H => ∃ xs, SqL K H a xs ∧ xs.length ≤ i⟩
def Itt (K : PySem.W.Frag) (a : Addr) : It :=
  ⟨fun i H => ∃ xs x, SqT K H a xs ∧ xs[i]? = some x, fun i H x H' => H' = H ∧ ∀ xs, SqT K H a xs → xs[i]? = some x, fun i H => ∃ xs, SqT K H a xs ∧ xs.length ≤ i⟩
/-- lo, lo + 1, .. (n of them) -/
def Itr (lo : Int) (n : Nat) : It := ⟨fun i _ => i < n, fun i H x H' => H' = H ∧ x = .int (lo + i), fun i _ => n ≤ i⟩
theorem turn_list {P : Program} {w : World} {K : PySem.W.Frag} {tg : Expr} (a it : Addr) : Turn P w K tg (Itl K a) [it] it (fun i h => h.IsListIter it a i) where
  mem := by simp
  obj := fun i h st b hb => by
    have e : b = it := by simpa using hb
    subst e
    obtain ⟨o, e, c, d⟩ := st
    exact ⟨o, e, fun v z => by rw [d] at z; cases z⟩
  keep := fun i h h' st k => st.at fun o e => k it (by simp) o e
  item := by
    intro X hP hw hK hc i pins s σ H E I hf st hg
    subst hP hw hK
    obtain ⟨xs, x, hq, hx⟩ := hg
    obtain ⟨its, rv, p, hz⟩ := I.list hq
    obtain ⟨u, hu, ru⟩ := rv.get hx
    obtain ⟨f0, f1, f2, f3, f4, f5⟩ := hf it (by simp)
    refine wpAny_pyNext_list_item st p.isList (x := u) (by simpa using hu) fun h' st' sb => ?_
    have I1 : Inv X pins σ H { s with heap := h' } := I.turned (t' := s.toks) (fun b o hb e => (sb.2 b hb).trans e) f0 f1 f3 f4 f5
    obtain ⟨o, e, c, d⟩ := id st'
    exact ⟨u, rfl, go_of (s := { s with heap := h' }) e c d (by decide) ⟨x, H, I1, ru, ⟨rfl, fun ys hy => by rw [I.list_inj hy hq]; exact hx⟩, st', fun b hb => (hf b hb).1⟩⟩
  done := by
    intro X hP hw hK hc i pins s σ H E I hf st hg
    subst hP hw hK
    obtain ⟨xs, hq, hx⟩ := hg
    obtain ⟨its, rv, p, hz⟩ := I.list hq
    obtain ⟨f0, f1, f2, f3, f4, f5⟩ := hf it (by simp)
    have hl := rv.length
    exact wpAny_pyNext_list_end (I.ok.hd hc) st p.isList (by simp; omega) fun h' eb => ⟨rfl, I.turned (t' := s.toks) (fun b o hb e => eb b o hb e) f0 f1 f3 f4 f5⟩
  self := fun _ _ _ _ _ st h => wpAny_pyIter_listiter st h
theorem turn_tuple {P : Program} {w : World} {K : PySem.W.Frag} {tg : Expr} (a it : Addr) : Turn P w K tg (Itt K a) [it] it (fun i h => h.IsTupleIter it a i) where
  mem := by simp
  obj := fun i h st b hb => by
    have e : b = it := by simpa using hb
    subst e
    obtain ⟨o, e, c, d⟩ := st
    exact ⟨o, e, fun v z => by rw [d] at z; cases z⟩
  keep := fun i h h' st k => st.at fun o e => k it (by simp) o e
  item := by
    intro X hP hw hK hc i pins s σ H E I hf st hg
    subst hP hw hK
    obtain ⟨xs, x, hq, hx⟩ := hg
    obtain ⟨its, rv, p, hz⟩ := I.tuple hq
    obtain ⟨u, hu, ru⟩ := rv.get hx
    obtain ⟨f0, f1, f2, f3, f4, f5⟩ := hf it (by simp)
    refine wpAny_pyNext_tuple_item st (show s.heap.IsTuple a its.toArray from p) (x := u) (by simpa using hu) fun h' st' sb => ?_
    have I1 : Inv X pins σ H { s with heap := h' } := I.turned (t' := s.toks) (fun b o hb e => (sb.2 b hb).trans e) f0 f1 f3 f4 f5
    obtain ⟨o, e, c, d⟩ := id st'
    exact ⟨u, rfl, go_of (s := { s with heap := h' }) e c d (by decide) ⟨x, H, I1, ru, ⟨rfl, fun ys hy => by rw [I.tuple_inj hy hq]; exact hx⟩, st', fun b hb => (hf b hb).1⟩⟩
  done := by
    intro X hP hw hK hc i pins s σ H E I hf st hg
    subst hP hw hK
    obtain ⟨xs, hq, hx⟩ := hg
    obtain ⟨its, rv, p, hz⟩ := I.tuple hq
    obtain ⟨f0, f1, f2, f3, f4, f5⟩ := hf it (by simp)
    have hl := rv.length
    exact wpAny_pyNext_tuple_end (I.ok.hd hc) st (show s.heap.IsTuple a its.toArray from p) (by simp; omega) fun h' eb => ⟨rfl, I.turned (t' := s.toks) (fun b o hb e => eb b o hb e) f0 f1 f3 f4 f5⟩
  self := fun _ _ _ _ _ st h => wpAny_pyIter_tupleiter st h
theorem turn_range {P : Program} {w : World} {K : PySem.W.Frag} {tg : Expr} (it : Addr) (lo : Int) (n : Nat) : Turn P w K tg (Itr lo n) [it] it (fun i h => IsRangeIter h it (lo + (i : Nat) * 1) ((n : Int) - (i : Nat)) 1) where
  mem := by simp
  obj := fun i h st b hb => by
    have e : b = it := by simpa using hb
    subst e
    exact ⟨_, st, fun v z => by
      have z' : Data.fields _ = Data.cell v := z
      cases z'⟩
  keep := fun i h h' st k => k it (by simp) _ st
  item := by
    intro X hP hw hK hc i pins s σ H E I hf st hg
    subst hP hw hK
    obtain ⟨f0, f1, f2, f3, f4, f5⟩ := hf it (by simp)
    have W := Walks.range (prog := X.prog) (w := X.w) (I.ok.hd hc) it lo 1 n
    refine W.item i s _ _ hg st fun v h' tk hv st' kk => ?_
    obtain ⟨t, rfl⟩ := hv
    have I1 : Inv X pins σ H { s with heap := h', toks := tk } := I.turned (fun b o hb e => kk b o (by simpa using hb) e) f0 f1 f3 f4 f5
    refine ⟨_, rfl, go_of (s := { s with heap := h', toks := tk }) (n := "range_iterator") st' rfl rfl (by decide) ⟨.int (lo + i), H, I1, ⟨t, ?_⟩, ⟨rfl, rfl⟩, st', fun b hb => (hf b hb).1⟩⟩
    rw [Int.mul_one]
  done := by
    intro X hP hw hK hc i pins s σ H E I hf st hg
    subst hP hw hK
    obtain ⟨f0, f1, f2, f3, f4, f5⟩ := hf it (by simp)
    exact wpAny_pyNext_range_end (I.ok.hd hc) st (by have : n ≤ i := hg; omega) fun h' eb => ⟨rfl, I.turned (t' := s.toks) (fun b o hb e => eb b o hb e) f0 f1 f3 f4 f5⟩
  self := fun _ _ _ _ _ st h => wpAny_pyIter_rangeiter st h
end L2
namespace L2
open PySem PySem.Spec PyProof.Rows
section
variable {X : Cx} {tg : Expr}
def iList (K : PySem.W.Frag) (tl : TE) : TI := fun σ H R => tl σ H fun x H1 => ∃ a, x = .ref a ∧ (∃ xs, SqL K H1 a xs) ∧ R (Itl K a) H1
def iTup (K : PySem.W.Frag) (tl : TE) : TI := fun σ H R => tl σ H fun x H1 => ∃ a, x = .ref a ∧ (∃ xs, SqT K H1 a xs) ∧ R (Itt K a) H1
theorem pi_list {l : Expr} {tl : TE} (hl : PE X l tl) : PI X tg l (iList X.K tl) := by
  intro pins s σ H R I h
  refine thn (hl pins s σ H _ I h) fun v s1 ⟨x, H1, I1, r1, q1⟩ => ?_
  obtain ⟨a, e, ⟨xs, hq⟩, q⟩ := q1
  subst e
  cases r1
  obtain ⟨its, rv, p, hz⟩ := I1.list hq
  refine wpAny_pyIter_list p.isList ?_
  refine ⟨s1.heap.objs.size, [s1.heap.objs.size], _, _, H1, rfl, I1.kept (t' := s1.toks) fun b o e => Heap.get?_push_of_some _ e, turn_list a _, ⟨_, Heap.get?_push_size _ rfl, rfl, rfl⟩, fun b hb => ?_, q⟩
  have e : b = s1.heap.objs.size := by simpa using hb
  subst e
  exact I1.fpOk (Nat.le_refl _) (I1.hok.fresh (Nat.le_refl _))
theorem pi_tup {l : Expr} {tl : TE} (hl : PE X l tl) : PI X tg l (iTup X.K tl) := by
  intro pins s σ H R I h
  refine thn (hl pins s σ H _ I h) fun v s1 ⟨x, H1, I1, r1, q1⟩ => ?_
  obtain ⟨a, e, ⟨xs, hq⟩, q⟩ := q1
  subst e
  cases r1
  obtain ⟨its, rv, p, hz⟩ := I1.tuple hq
  refine wpAny_pyIter_tuple (show s1.heap.IsTuple a its.toArray from p) ?_
  refine ⟨s1.heap.objs.size, [s1.heap.objs.size], _, _, H1, rfl, I1.kept (t' := s1.toks) fun b o e => Heap.get?_push_of_some _ e, turn_tuple a _, ⟨_, Heap.get?_push_size _ rfl, rfl, rfl⟩, fun b hb => ?_, q⟩
  have e : b = s1.heap.objs.size := by simpa using hb
  subst e
  exact I1.fpOk (Nat.le_refl _) (I1.hok.fresh (Nat.le_refl _))
/-- a range object just made, walked -/
theorem range_it {pins : List (Addr × Obj)} {σ : St} {H : Hp} {s : Shared} {R : It → Hp → Prop} {E : Value → Shared → Prop} {lo hi : Int} {t u v : Tok} {tk : Nat} (I : Inv X pins σ H s) (h1 : -(2 ^ 62) ≤ lo) (h2 : lo < 2 ^ 62) (h3 : -(2 ^ 62) ≤ hi) (h4 : hi < 2 ^ 62)
    (q : R (Itr lo (hi - lo).toNat) H) : wpAny (model X.prog X.w) X.A (pyIter (.ref s.heap.objs.size)) (PIE X pins σ tg R) E { s with heap := s.heap.push { cls := .type "range", data := .fields #[.int lo t, .int hi u, .int 1 v] }, toks := tk } := by
  refine wpAny_pyIter_range (IsRange.new ..) (small_one h1 h2 h3 h4) ?_
  have I1 : Inv X pins σ H { s with heap := s.heap.push { cls := .type "range", data := .fields #[.int lo t, .int hi u, .int 1 v] }, toks := tk } := I.kept fun b o e => Heap.get?_push_of_some _ e
  refine ⟨(s.heap.push { cls := .type "range", data := .fields #[.int lo t, .int hi u, .int 1 v] }).objs.size, [(s.heap.push { cls := .type "range", data := .fields #[.int lo t, .int hi u, .int 1 v] }).objs.size], _, _, H, rfl,
    I1.kept (t' := tk) fun b o e => Heap.get?_push_of_some _ e, turn_range _ lo (hi - lo).toNat, ?_, fun b hb => ?_, q⟩
  · have e1 : lo + ((0 : Nat) : Int) * 1 = lo := by simp
    have e2 : (((hi - lo).toNat : Nat) : Int) - ((0 : Nat) : Int) = Builtin.Range.rangeSize lo hi 1 := by rw [rangeSize_one]; split <;> omega
    show IsRangeIter _ _ (lo + ((0 : Nat) : Int) * 1) ((((hi - lo).toNat : Nat) : Int) - ((0 : Nat) : Int)) 1
    rw [e1, e2]
    exact Heap.get?_push_size _ rfl
  · have e : b = (s.heap.push { cls := .type "range", data := .fields #[.int lo t, .int hi u, .int 1 v] }).objs.size := by simpa using hb
    subst e
    exact I1.fpOk (Nat.le_refl _) (I1.hok.fresh (Nat.le_refl _))
def iRng1 (ta : TA) : TI := fun σ H R => ta σ H fun vs H1 => ∃ j : Int, vs = [.int j] ∧ -(2 ^ 62) ≤ j ∧ j < 2 ^ 62 ∧ R (Itr 0 j.toNat) H1
theorem pi_range1 {a : Expr} {ta : TA} {p pos : Pos} (hg : Gl X "range") (hm : X.mg "range" = none) (ha : PA X [a] ta) (hs : starEach [a] X.env = [(false, eval a X.env)] := by rfl) : PI X tg (.Call (.Name "range" p) [a] [] pos) (iRng1 ta) := by
  intro pins s σ H R I h
  refine Call_ (ld_blt I hg hm boot_range (PyProof.Rows.callWith_type1 (thn (ha pos pins s σ H _ I h) fun us s1 ⟨vs, H1, I1, r1, q1⟩ => ?_) hs rfl))
  obtain ⟨j, e, q1, q2, q⟩ := q1
  subst e
  cases r1 with
  | cons r rr =>
    cases rr
    obtain ⟨t, rfl⟩ := r
    exact call_range_1 (range_it I1 (by omega) (by omega) q1 q2 (by simpa using q))
/-- W: the invariant by the turn and a measure; N: what the body is to reach -/
def tFor (wi : TI) (g : TG) (tb : TS) : TS := fun D σ H => wi σ H fun J H1 => ∃ W : Nat → Nat → St → Hp → Prop, (∃ m, W 0 m σ H1) ∧ ∀ i m σ H, W i m σ H →
  (J.stop i H ∧ D.nx σ H) ∨ (J.go i H ∧ ∃ N : St → Hp → Prop, (∀ σ' H', N σ' H' → ∃ m', m' < m ∧ W (i + 1) m' σ' H') ∧ ∀ x H', J.yld i H x H' → g x σ H' fun σ2 H2 => tb { D with nx := N, ct := N, bk := D.nx } σ2 H2)
/-- the records at fp as they stand -/
def pinsAt (fp : List Addr) (h : Heap) : List (Addr × Obj) := fp.filterMap fun b => (h.get? b).map fun o => (b, o)
theorem mem_pinsAt {fp : List Addr} {h : Heap} {b : Addr} {o : Obj} (hb : b ∈ fp) (e : h.get? b = some o) : (b, o) ∈ pinsAt fp h := List.mem_filterMap.mpr ⟨b, hb, by rw [e]; rfl⟩
theorem of_pinsAt {fp : List Addr} {h : Heap} {p : Addr × Obj} (hp : p ∈ pinsAt fp h) : p.1 ∈ fp ∧ h.get? p.1 = some p.2 := by
  obtain ⟨b, hb, e⟩ := List.mem_filterMap.mp hp
  cases q : h.get? b with
  | none => rw [q] at e; cases e
  | some o =>
    rw [q] at e
    have e' : (b, o) = p := Option.some.inj e
    subst e'
    exact ⟨hb, q⟩
theorem Inv.pinned {pins : List (Addr × Obj)} {σ : St} {H : Hp} {s : Shared} {fp : List Addr} (I : Inv X pins σ H s) (hf : ∀ b ∈ fp, FpOk X pins H b) (ho : ∀ b ∈ fp, ∃ o, s.heap.get? b = some o ∧ ∀ v, o.data ≠ .cell v) : Inv X (pins ++ pinsAt fp s.heap) σ H s :=
  I.pins_of fun p hp => (List.mem_append.mp hp).elim (fun z => I.pin p (List.mem_append_right _ z)) fun z => by
    obtain ⟨hb, e⟩ := of_pinsAt z
    obtain ⟨f0, f1, f2, _⟩ := hf p.1 hb
    obtain ⟨o, e', d⟩ := ho p.1 hb
    rw [e] at e'; cases e'
    exact ⟨e, f0, f1, f2, d⟩
theorem Inv.unpinned {pins pl : List (Addr × Obj)} {σ : St} {H : Hp} {s : Shared} (I : Inv X (pins ++ pl) σ H s) : Inv X pins σ H s := I.pins_of fun p hp => I.pin p (List.mem_append_right _ (List.mem_append_left _ hp))
theorem ps_for {iter : Expr} {body : List Stmt} {wi : TI} {g : TG} {tb : TS} {pos : Pos} (hp : PassesOwn (model X.prog X.w) X.A X.env X.xe) (hc : X.calm = true) (hi : PI X tg iter wi) (hg : PG X tg g) (hb : PSs X body tb)
    (hs : ∀ x, foldedSetIterable iter X.env x = pure x := by intro _; rfl) : PS X (.For tg iter body [] pos) (tFor wi g tb) := by
  intro pins s σ H D I h
  refine wpAny_For (thn (hi pins s σ H _ I h) fun v s1 h1 => thn h1 fun itv s2 h2 => ?_) hs
  obtain ⟨it, fp, tn, J, H2, e, I2, T, st2, f2, W, ⟨m0, w0⟩, turn⟩ := h2
  subst e
  -- what stays true of the iterator's objects through the loop
  have stat : ∀ {H' : Hp}, (∀ b ∈ fp, H' b = none) → ∀ b ∈ fp, FpOk X pins H' b := fun hn b hb => ⟨hn b hb, (f2 b hb).2⟩
  refine codeAny_forLoop_any (fun n s' => ∃ i σ' H', Inv X pins σ' H' s' ∧ tn i s'.heap ∧ (∀ b ∈ fp, H' b = none) ∧ W i n σ' H') ?_ m0 ⟨0, σ, H2, I2, st2, fun b hb => (f2 b hb).1, w0⟩
  rintro n s3 ⟨i, σ3, H3, I3, st3, fr3, w3⟩
  rcases turn i n σ3 H3 w3 with ⟨stop, qn⟩ | ⟨go, N, hN, step⟩
  · refine wpAny_passesOwn hp (thn (T.done X rfl rfl rfl hc i pins s3 σ3 H3 X.xe I3 (stat fr3) st3 stop) fun r s4 ⟨hr, I4⟩ => ?_)
    subst hr
    exact wpAny_execs_nil ⟨σ3, H3, I4, qn⟩
  · refine wpAny_passesOwn hp (thn (T.item X rfl rfl rfl hc i pins s3 σ3 H3 X.xe I3 (stat fr3) st3 go) fun r s4 ⟨u, hr, h4⟩ => ?_)
    subst hr
    refine wpAny_passesOwn hp (thn h4 fun _ s5 ⟨x, H5, I5, r5, y5, st5, fr5⟩ => ?_)
    have I5' := I5.pinned (stat fr5) (T.obj _ _ st5)
    refine wpAny_passesOwn hp (thn (hg _ s5 σ3 H5 x u _ I5' r5 (step x H5 y5)) fun _ s6 ⟨σ6, H6, I6, q6⟩ => ?_)
    refine wpAny_passesOwn hp (thn (hb _ s6 σ6 H6 _ I6 q6) fun f s7 q7 => ?_)
    have again : ∀ {σ7 : St} {H7 : Hp}, Inv X (pins ++ pinsAt fp s5.heap) σ7 H7 s7 → N σ7 H7 → ∃ m, m < n ∧ ∃ i σ' H', Inv X pins σ' H' s7 ∧ tn i s7.heap ∧ (∀ b ∈ fp, H' b = none) ∧ W i m σ' H' := fun {σ7 H7} I7 n7 => by
      obtain ⟨m', hm, w7⟩ := hN σ7 H7 n7
      refine ⟨m', hm, i + 1, σ7, H7, I7.unpinned, T.keep _ _ _ st5 fun b hb o e => (I7.pin (b, o) (List.mem_append_right _ (List.mem_append_right _ (mem_pinsAt hb e)))).1, fun b hb => ?_, w7⟩
      obtain ⟨o, e, d⟩ := T.obj _ _ st5 b hb
      exact (I7.pin (b, o) (List.mem_append_right _ (List.mem_append_right _ (mem_pinsAt hb e)))).2.1
    cases f with
    | next => obtain ⟨σ7, H7, I7, n7⟩ := q7; exact again I7 n7
    | cont => obtain ⟨σ7, H7, I7, n7⟩ := q7; exact again I7 n7
    | brk => obtain ⟨σ7, H7, I7, q7⟩ := q7; exact ⟨σ7, H7, I7.unpinned, q7⟩
    | ret v => obtain ⟨x7, σ7, H7, I7, r7, q7⟩ := q7; exact ⟨x7, σ7, H7, I7.unpinned, r7, q7⟩
end
theorem for_tup {K : PySem.W.Frag} {a : Addr} {xs : List V} {g : TG} {tb : TS} {D : Ends} {σ : St} {H : Hp} (Pv : Nat → St → Hp → Prop) (h0 : Pv 0 σ H) (hl : ∀ i σ H, i ≤ xs.length → Pv i σ H → SqT K H a xs)
    (hs : ∀ i x σ H, xs[i]? = some x → Pv i σ H → g x σ H fun σ2 H2 => tb { D with nx := Pv (i + 1), ct := Pv (i + 1), bk := D.nx } σ2 H2) (hd : ∀ σ H, Pv xs.length σ H → D.nx σ H) :
    ∃ W : Nat → Nat → St → Hp → Prop, (∃ m, W 0 m σ H) ∧ ∀ i m σ H, W i m σ H →
      ((Itt K a).stop i H ∧ D.nx σ H) ∨ ((Itt K a).go i H ∧ ∃ N : St → Hp → Prop, (∀ σ' H', N σ' H' → ∃ m', m' < m ∧ W (i + 1) m' σ' H') ∧ ∀ x H', (Itt K a).yld i H x H' → g x σ H' fun σ2 H2 => tb { D with nx := N, ct := N, bk := D.nx } σ2 H2) := by
  refine ⟨fun i m σ H => m = xs.length - i ∧ i ≤ xs.length ∧ Pv i σ H, ⟨xs.length, by simp, Nat.zero_le _, h0⟩, ?_⟩
  rintro i m σ H ⟨rfl, hi, p⟩
  have q := hl i σ H hi p
  by_cases hlt : i < xs.length
  · refine .inr ⟨⟨xs, xs[i], q, by simp [hlt]⟩, Pv (i + 1), fun σ' H' p' => ⟨xs.length - (i + 1), by omega, rfl, hlt, p'⟩, fun x H' y => ?_⟩
    obtain ⟨e, y⟩ := y
    subst e
    exact hs i x σ _ (y xs q) p
  · have e : i = xs.length := by omega
    subst e
    exact .inl ⟨⟨xs, q, Nat.le_refl _⟩, hd σ H p⟩
theorem for_range {lo : Int} {n : Nat} {g : TG} {tb : TS} {D : Ends} {σ : St} {H : Hp} (Pv : Nat → St → Hp → Prop) (h0 : Pv 0 σ H)
    (hs : ∀ i σ H, i < n → Pv i σ H → g (.int (lo + i)) σ H fun σ2 H2 => tb { D with nx := Pv (i + 1), ct := Pv (i + 1), bk := D.nx } σ2 H2) (hd : ∀ σ H, Pv n σ H → D.nx σ H) :
    ∃ W : Nat → Nat → St → Hp → Prop, (∃ m, W 0 m σ H) ∧ ∀ i m σ H, W i m σ H →
      ((Itr lo n).stop i H ∧ D.nx σ H) ∨ ((Itr lo n).go i H ∧ ∃ N : St → Hp → Prop, (∀ σ' H', N σ' H' → ∃ m', m' < m ∧ W (i + 1) m' σ' H') ∧ ∀ x H', (Itr lo n).yld i H x H' → g x σ H' fun σ2 H2 => tb { D with nx := N, ct := N, bk := D.nx } σ2 H2) := by
  refine ⟨fun i m σ H => m = n - i ∧ i ≤ n ∧ Pv i σ H, ⟨n, by simp, Nat.zero_le _, h0⟩, ?_⟩
  rintro i m σ H ⟨rfl, hi, p⟩
  by_cases hlt : i < n
  · refine .inr ⟨hlt, Pv (i + 1), fun σ' H' p' => ⟨n - (i + 1), by omega, rfl, hlt, p'⟩, fun x H' y => ?_⟩
    obtain ⟨e, y⟩ := y
    subst e y
    exact hs i σ _ hlt p
  · have e : i = n := by omega
    subst e
    exact .inl ⟨Nat.le_refl _, hd σ H p⟩
end L2
namespace L2
open PySem PySem.Spec PyProof.Rows
abbrev R2 := V → V → Hp → VK → Prop
/-- a two-place operation on values: f is binaryOp op, inplaceOp op or compareOp op -/
def OpR (X : Cx) (f : Value → Value → Sem Value) (r : R2) : Prop :=
  ∀ (pins : List (Addr × Obj)) (s : Shared) (σ : St) (H : Hp) (x y : V) (v u : Value) (Q : VK), Inv X pins σ H s → RelV x v → RelV y u → r x y H Q →
    wpAny (model X.prog X.w) X.A (f v u) (EP X pins σ Q) X.xe s
/-- a one-place operation -/
def UnR (X : Cx) (f : Value → Sem Value) (r : V → Hp → VK → Prop) : Prop :=
  ∀ (pins : List (Addr × Obj)) (s : Shared) (σ : St) (H : Hp) (x : V) (v : Value) (Q : VK), Inv X pins σ H s → RelV x v → r x H Q →
    wpAny (model X.prog X.w) X.A (f v) (EP X pins σ Q) X.xe s
/-- a call of a value that is known (a builtin, a type) with values -/
def CallR (X : Cx) (f : Value) (r : List V → Hp → VK → Prop) : Prop :=
  ∀ (pins : List (Addr × Obj)) (s : Shared) (σ : St) (H : Hp) (xs : List V) (us : List Value) (Q : VK), Inv X pins σ H s → Vals xs us → r xs H Q →
    wpAny (model X.prog X.w) X.A (call f us) (EP X pins σ Q) X.xe s
/-- a value's truth -/
def TruR (X : Cx) (r : V → Hp → (Bool → Hp → Prop) → Prop) : Prop :=
  ∀ (pins : List (Addr × Obj)) (s : Shared) (σ : St) (H : Hp) (x : V) (v : Value) (Q : Bool → Hp → Prop), Inv X pins σ H s → RelV x v → r x H Q →
    wpAny (model X.prog X.w) X.A (truthy v) (TP X pins σ Q) X.xe s

def tOp (r : R2) (ta tb : TE) : TE := fun σ H Q => ta σ H fun x H1 => tb σ H1 fun y H2 => r x y H2 Q
def tUn (r : V → Hp → VK → Prop) (ta : TE) : TE := fun σ H Q => ta σ H fun x H1 => r x H1 Q
/-- ints in, under C, and a value out -/
def rI (C : Int → Int → Prop) (g : Int → Int → V) : R2 := fun x y H Q => ∃ i j, x = .int i ∧ y = .int j ∧ C i j ∧ Q (g i j) H
def rI0 (g : Int → Int → V) : R2 := fun x y H Q => ∃ i j, x = .int i ∧ y = .int j ∧ Q (g i j) H
def rU (g : Int → V) : V → Hp → VK → Prop := fun x H Q => ∃ i, x = .int i ∧ Q (g i) H

section
variable {X : Cx} {a b c : Expr} {ta tb tc : TE} {pos : Pos}
theorem binT (ha : PE X a ta) (hb : PE X b tb) {pins : List (Addr × Obj)} {s : Shared} {σ : St} {H : Hp} {R : V → V → Hp → Prop} (I : Inv X pins σ H s)
    (h : ta σ H fun x H1 => tb σ H1 fun y H2 => R x y H2) {Q : Value → Shared → Prop} {f : Value → Value → Sem Value}
    (hf : ∀ v u s2 x y H2, Inv X pins σ H2 s2 → RelV x v → RelV y u → R x y H2 → wpAny (model X.prog X.w) X.A (f v u) Q X.xe s2) :
    wpAny (model X.prog X.w) X.A (eval a X.env) (fun v s₁ => wpAny (model X.prog X.w) X.A (eval b X.env) (fun u s₂ => wpAny (model X.prog X.w) X.A (f v u) Q X.xe s₂) X.xe s₁) X.xe s := by
  refine thn (ha pins s σ H _ I h) fun v s1 ⟨x, H1, I1, r1, q1⟩ => ?_
  refine thn (hb pins s1 σ H1 _ I1 q1) fun u s2 ⟨y, H2, I2, r2, q2⟩ => ?_
  exact hf v u s2 x y H2 I2 r1 r2 q2

theorem pe_op {op : Operator} {r : R2} (ho : OpR X (binaryOp op) r) (ha : PE X a ta) (hb : PE X b tb) : PE X (.BinOp a op b pos) (tOp r ta tb) := by
  intro pins s σ H Q I h
  exact wpAny_BinOp (binT ha hb I h fun v u s2 x y H2 I2 rx ry q => ho pins s2 σ H2 x y v u Q I2 rx ry q)
theorem pe_un {op : UnaryOp} {r : V → Hp → VK → Prop} (ho : UnR X (unaryOp op) r) (ha : PE X a ta) : PE X (.UnaryOp op a pos) (tUn r ta) := by
  intro pins s σ H Q I h
  exact UnaryOp_ (thn (ha pins s σ H _ I h) fun v s1 ⟨x, H1, I1, r1, q1⟩ => ho pins s1 σ H1 x v Q I1 r1 q1)
theorem opI {f : Value → Value → Sem Value} {C : Int → Int → Prop} {g : Int → Int → Int}
    (rule : ∀ (i j : Int) (t u : Tok) (s : Shared) (Q : Value → Shared → Prop) (E : Value → Shared → Prop), C i j → Q (.int (g i j) s.toks) { s with toks := s.toks + 1 } → wpAny (model X.prog X.w) X.A (f (.int i t) (.int j u)) Q E s) :
    OpR X f (rI C fun i j => .int (g i j)) := by
  intro pins s σ H x y v u Q I rx ry h
  obtain ⟨i, j, rfl, rfl, hc, q⟩ := h
  obtain ⟨t, rfl⟩ := rx
  obtain ⟨t', rfl⟩ := ry
  exact rule i j t t' s _ _ hc ⟨.int (g i j), H, I.tok _, ⟨_, rfl⟩, q⟩
theorem opI0 {f : Value → Value → Sem Value} {g : Int → Int → Int}
    (rule : ∀ (i j : Int) (t u : Tok) (s : Shared) (Q : Value → Shared → Prop) (E : Value → Shared → Prop), Q (.int (g i j) s.toks) { s with toks := s.toks + 1 } → wpAny (model X.prog X.w) X.A (f (.int i t) (.int j u)) Q E s) :
    OpR X f (rI0 fun i j => .int (g i j)) := by
  intro pins s σ H x y v u Q I rx ry h
  obtain ⟨i, j, rfl, rfl, q⟩ := h
  obtain ⟨t, rfl⟩ := rx
  obtain ⟨t', rfl⟩ := ry
  exact rule i j t t' s _ _ ⟨.int (g i j), H, I.tok _, ⟨_, rfl⟩, q⟩
theorem opB0 {f : Value → Value → Sem Value} {g : Int → Int → Bool}
    (rule : ∀ (i j : Int) (t u : Tok) (s : Shared) (Q : Value → Shared → Prop) (E : Value → Shared → Prop), Q (.bool (g i j)) s → wpAny (model X.prog X.w) X.A (f (.int i t) (.int j u)) Q E s) :
    OpR X f (rI0 fun i j => .bl (g i j)) := by
  intro pins s σ H x y v u Q I rx ry h
  obtain ⟨i, j, rfl, rfl, q⟩ := h
  obtain ⟨t, rfl⟩ := rx
  obtain ⟨t', rfl⟩ := ry
  exact rule i j t t' s _ _ ⟨.bl (g i j), H, I, rfl, q⟩

def CDiv (i j : Int) : Prop := 0 < j ∧ j < 1073741824
def CPow (i j : Int) : Prop := 0 ≤ j ∧ j ≤ 1000000 ∧ i.natAbs < 2 ^ 64
def CMul (i j : Int) : Prop := (-(2 ^ 64) < i ∧ i < 2 ^ 64) ∨ (-(2 ^ 64) < j ∧ j < 2 ^ 64)
theorem CMul.ok {i j : Int} (h : CMul i j) : IntMulOk i j := by
  rcases h with ⟨h1, h2⟩ | ⟨h1, h2⟩
  · exact .of_left (intBits_le_64 h1 h2)
  · exact .of_right (intBits_le_64 h1 h2)
theorem op_add : OpR X (binaryOp .Add) (rI0 fun i j => .int (i + j)) := opI0 fun _ _ _ _ _ _ _ q => add_int q
theorem op_sub : OpR X (binaryOp .Sub) (rI0 fun i j => .int (i - j)) := opI0 fun _ _ _ _ _ _ _ q => sub_int q
theorem op_mul : OpR X (binaryOp .Mult) (rI CMul fun i j => .int (i * j)) := opI fun _ _ _ _ _ _ _ hc q => mul_int q hc.ok
/-- // by a positive divisor -/
theorem op_fdiv : OpR X (binaryOp .FloorDiv) (rI CDiv fun i j => .int (i / j)) := opI fun i j _ _ _ _ _ hc q => by
  have h1 : (0 : Int) < j := hc.1
  have h2 : j < 1073741824 := hc.2
  exact floordiv_int (by omega) (by rw [Int.fdiv_eq_ediv_of_nonneg i (by omega)]; exact q) (.inl (PyProof.noPylong_small (by omega)))
/-- % by a positive divisor of any size -/
theorem op_mod : OpR X (binaryOp .Mod) (rI (fun _ j => 0 < j) fun i j => .int (i % j)) := opI fun i j _ _ _ _ _ hc q => by
  have h1 : (0 : Int) < j := hc
  exact mod_int' (by omega) (by rw [Int.fmod_eq_emod_of_nonneg i (by omega)]; exact q)
theorem op_pow : OpR X (binaryOp .Pow) (rI CPow fun i j => .int (i ^ j.toNat)) := opI fun _ _ _ _ _ _ _ hc q => pow_int_small hc.1 hc.2.1 hc.2.2 q
theorem unI {f : Value → Sem Value} {g : Int → Int}
    (rule : ∀ (i : Int) (t : Tok) (s : Shared) (Q : Value → Shared → Prop) (E : Value → Shared → Prop), Q (.int (g i) s.toks) { s with toks := s.toks + 1 } → wpAny (model X.prog X.w) X.A (f (.int i t)) Q E s) :
    UnR X f (rU fun i => .int (g i)) := by
  intro pins s σ H x v Q I rx h
  obtain ⟨i, rfl, q⟩ := h
  obtain ⟨t, rfl⟩ := rx
  exact rule i t s _ _ ⟨.int (g i), H, I.tok _, ⟨_, rfl⟩, q⟩
theorem un_neg : UnR X (unaryOp .USub) (rU fun i => .int (-i)) := unI fun _ _ _ _ _ q => neg_int q
end
section
variable {X : Cx} {a b c : Expr} {ta tb tc : TE} {pos : Pos}
theorem fin_bl {pins : List (Addr × Obj)} {σ : St} {H : Hp} {s : Shared} {Q : VK} {k k' : Bool} (I : Inv X pins σ H s) (q : Q (.bl k) H) (e : k = k') : EP X pins σ Q (.bool k') s := by
  subst e
  exact ⟨.bl k, H, I, rfl, q⟩
theorem op_lt : OpR X (compareOp .Lt) (rI0 fun i j => .bl (decide (i < j))) := opB0 fun _ _ _ _ _ _ _ q => lt_int q
theorem op_le : OpR X (compareOp .LtE) (rI0 fun i j => .bl (decide (i ≤ j))) := opB0 fun _ _ _ _ _ _ _ q => le_int q
theorem op_gt : OpR X (compareOp .Gt) (rI0 fun i j => .bl (decide (j < i))) := opB0 fun _ _ _ _ _ _ _ q => gt_int q
theorem op_ge : OpR X (compareOp .GtE) (rI0 fun i j => .bl (decide (j ≤ i))) := opB0 fun _ _ _ _ _ _ _ q => ge_int q
/-- is None, is not None: the right side a value none -/
theorem op_isN : OpR X (compareOp .Is) (fun x y H Q => y = .non ∧ Q (.bl (decide (x = .non))) H) := by
  intro pins s σ H x y v u Q I rx ry h
  obtain ⟨rfl, q⟩ := h
  cases ry
  refine is_none_gen (fin_bl I q ?_)
  cases x <;> first
    | (cases rx; rfl)
    | (obtain ⟨t, rfl⟩ := rx; rfl)
theorem op_notN : OpR X (compareOp .IsNot) (fun x y H Q => y = .non ∧ Q (.bl (!decide (x = .non))) H) := by
  intro pins s σ H x y v u Q I rx ry h
  obtain ⟨rfl, q⟩ := h
  cases ry
  refine isnot_none_gen (fin_bl I q ?_)
  cases x <;> first
    | (cases rx; rfl)
    | (obtain ⟨t, rfl⟩ := rx; rfl)

/-- two rules for one operation: by cases -/
theorem OpR.or {f : Value → Value → Sem Value} {r r' : R2} (h : OpR X f r) (h' : OpR X f r') : OpR X f (fun x y H Q => r x y H Q ∨ r' x y H Q) := by
  intro pins s σ H x y v u Q I rx ry q
  rcases q with q | q
  · exact h pins s σ H x y v u Q I rx ry q
  · exact h' pins s σ H x y v u Q I rx ry q

theorem nomark (b : Expr) {op : CmpOp} (h : op ≠ .In := by decide) (h2 : op ≠ .NotIn := by decide) : behindInMarks op b = false := by
  have e1 : (op == CmpOp.In) = false := by cases op <;> first | rfl | exact absurd rfl h
  have e2 : (op == CmpOp.NotIn) = false := by cases op <;> first | rfl | exact absurd rfl h2
  cases b <;> simp [behindInMarks, e1, e2]
/-- a comparison as a value; hm: nomark b, or (for in, not in) by with_unfolding_all rfl -/
theorem pe_cmpR {op : CmpOp} {r : R2} (ho : OpR X (compareOp op) r) (ha : PE X a ta) (hb : PE X b tb) (hm : behindInMarks op b = false) : PE X (.Compare a [op] [b] pos) (tOp r ta tb) := by
  intro pins s σ H Q I h
  exact wpAny_Compare1 (binT ha hb I h fun v u s2 x y H2 I2 rx ry q => ho pins s2 σ H2 x y v u Q I2 rx ry q) hm
/-- a reading of a value as a test -/
def tTest (t : TE) : TT := fun σ H Q => t σ H fun x H' => ∃ k, x = .bl k ∧ Q k H'
theorem pt_cmpR {op : CmpOp} {r : R2} (ho : OpR X (compareOp op) r) (ha : PE X a ta) (hb : PE X b tb) (hm : behindInMarks op b = false) : PT X (.Compare a [op] [b] pos) (tTest (tOp r ta tb)) := by
  intro pins s σ H Q I h
  refine wpAny_isTrue_Compare1 (thn (ha pins s σ H _ I h) fun v s1 ⟨x, H1, I1, r1, q1⟩ => thn (hb pins s1 σ H1 _ I1 q1) fun u s2 ⟨y, H2, I2, r2, q2⟩ =>
    thn (ho pins s2 σ H2 x y v u _ I2 r1 r2 q2) fun c s3 ⟨z, H3, I3, r3, k, e, q3⟩ => ?_) hm
  subst e
  cases r3
  exact wpAny_truthy_bool ⟨H3, I3, q3⟩
/-- a value's truth by the abstract heap -/
def TruV (K : PySem.W.Frag) (x : V) (H : Hp) (k : Bool) : Prop :=
  match x with
  | .non => k = false
  | .bl b => k = b
  | .int i => k = (i != 0)
  | .str y => y.length ≤ sizeLine ∧ k = ((y.length : Int) != 0)
  | .byt y => y.size ≤ sizeLine ∧ k = ((y.size : Int) != 0)
  | .ref p => (∃ xs, SqL K H p xs ∧ k = !xs.isEmpty) ∨ (∃ xs, SqT K H p xs ∧ k = !xs.isEmpty) ∨ ∃ kvs, H p = some (.dK kvs) ∧ k = !kvs.isEmpty
  | _ => False
theorem isEmpty_kv {κ : Type} {kvs : List (κ × V)} {vs : List (κ × Value)} (r : KV kvs vs) : (!vs.isEmpty) = !kvs.isEmpty := by
  cases r <;> rfl
theorem isEmpty_of {xs : List V} {its : List Value} (r : Vals xs its) : (!its.toArray.isEmpty) = !xs.isEmpty := by
  cases r <;> simp
theorem line63 : (sizeLine : Nat) < 2 ^ 63 := by rw [sizeLine_eq]; decide
theorem tru_ok : TruR X (fun x H Q => ∃ k, TruV X.K x H k ∧ Q k H) := by
  intro pins s σ H x v Q I rx h
  obtain ⟨k, e, q⟩ := h
  have hl := line63
  have hs : sizeLine = 16777216 := sizeLine_eq
  cases x with
  | non =>
    cases rx
    have e' : k = false := e
    subst e'
    exact truthy_none ⟨H, I, q⟩
  | bl b =>
    cases rx
    have e' : k = b := e
    subst e'
    exact wpAny_truthy_bool ⟨H, I, q⟩
  | int i =>
    obtain ⟨t, rfl⟩ := rx
    have e' : k = (i != 0) := e
    subst e'
    exact PySem.P.truthy_int ⟨H, I, q⟩
  | str y =>
    obtain ⟨t, rfl⟩ := rx
    obtain ⟨hy, e'⟩ : y.length ≤ sizeLine ∧ k = ((y.length : Int) != 0) := e
    subst e'
    exact PySem.P.truthy_str (by omega) ⟨H, I.tok _, q⟩
  | byt y =>
    obtain ⟨t, rfl⟩ := rx
    obtain ⟨hy, e'⟩ : y.size ≤ sizeLine ∧ k = ((y.size : Int) != 0) := e
    subst e'
    exact PySem.W.truthy_bytes (by omega) ⟨H, I.tok _, q⟩
  | ref p =>
    cases rx
    have e' : (∃ xs, SqL X.K H p xs ∧ k = !xs.isEmpty) ∨ (∃ xs, SqT X.K H p xs ∧ k = !xs.isEmpty) ∨ ∃ kvs, H p = some (.dK kvs) ∧ k = !kvs.isEmpty := e
    rcases e' with ⟨xs, hx, e'⟩ | ⟨xs, hx, e'⟩ | ⟨kvs, hx, e'⟩
    · subst e'
      obtain ⟨its, r, pl, hz⟩ := I.list hx
      have hlen := r.length
      exact wpAny_truthy_list pl.isList (by simp only [List.size_toArray]; omega) ⟨H, I.tok _, by rw [isEmpty_of r]; exact q⟩
    · subst e'
      obtain ⟨its, r, pl, hz⟩ := I.tuple hx
      have hlen := r.length
      exact truthy_tuple pl (by simp only [List.size_toArray]; omega) ⟨H, I.tok _, by rw [isEmpty_of r]; exact q⟩
    · subst e'
      obtain ⟨hz, hS, vs, r, m⟩ : kvs.length ≤ sizeLine ∧ (p == sysModules) = false ∧ ∃ vs, KV kvs vs ∧ s.heap.DictOf (mixKind X.prog X.w) p vs := I.hok p _ hx
      have hlen : kvs.length = vs.length := Paired.length r
      exact wpAny_truthy_dict hS m (by omega) ⟨H, I.tok _, by rw [isEmpty_kv r]; exact q⟩
  | _ => exact (show False from e).elim
/-- any expression whose test is its value's truth (a name, a call, a subscript, a field ..: he by fun _ => rfl) -/
theorem pt_truth (ha : PE X a ta) (he : ∀ whole, isTrue a X.env whole = (do let v ← whole; standAt a.pos; holding [v] (truthy v))) :
    PT X a (fun σ H Q => ta σ H fun x H' => ∃ k, TruV X.K x H' k ∧ Q k H') := by
  intro pins s σ H Q I h
  exact isTrue_plain (thn (ha pins s σ H _ I h) fun v s1 ⟨x, H1, I1, r1, q1⟩ => tru_ok pins s1 σ H1 x v Q I1 r1 q1) (he _)

theorem op_add_str : OpR X (binaryOp .Add) (fun x y H Q => ∃ i j, x = .str i ∧ y = .str j ∧ i.length + j.length ≤ sizeLine ∧ Q (.str (i ++ j)) H) := by
  intro pins s σ H x y v u Q I rx ry h
  obtain ⟨i, j, rfl, rfl, hz, q⟩ := h
  obtain ⟨t, rfl⟩ := rx
  obtain ⟨t', rfl⟩ := ry
  exact add_str (fun t' tk => ⟨.str (i ++ j), H, I.tok _, ⟨_, rfl⟩, q⟩) hz
theorem vals1 {x : V} {us : List Value} (r : Vals [x] us) : ∃ u, us = [u] ∧ RelV x u := by
  cases r with
  | cons r1 r2 => cases r2; exact ⟨_, rfl, r1⟩
theorem vals2 {x y : V} {us : List Value} (r : Vals [x, y] us) : ∃ u w', us = [u, w'] ∧ RelV x u ∧ RelV y w' := by
  cases r with
  | cons r1 r2 =>
    cases r2 with
    | cons r3 r4 => cases r4; exact ⟨_, _, rfl, r1, r3⟩
theorem call_max2 (hc : X.calm = true) : CallR X (.builtin "max") (fun xs H Q => ∃ i j, xs = [.int i, .int j] ∧ Q (.int (if j > i then j else i)) H) := by
  intro pins s σ H xs us Q I r h
  obtain ⟨i, j, rfl, q⟩ := h
  obtain ⟨u, w', rfl, ⟨t, rfl⟩, ⟨t', rfl⟩⟩ := vals2 r
  refine max_two_ints (I.ok.hd hc) fun h' tk k => ⟨_, H, I.kept k, ?_, q⟩
  by_cases hj : j > i
  · rw [if_pos hj, if_pos hj]; exact ⟨_, rfl⟩
  · rw [if_neg hj, if_neg hj]; exact ⟨_, rfl⟩
theorem call_min2 (hc : X.calm = true) : CallR X (.builtin "min") (fun xs H Q => ∃ i j, xs = [.int i, .int j] ∧ Q (.int (if j < i then j else i)) H) := by
  intro pins s σ H xs us Q I r h
  obtain ⟨i, j, rfl, q⟩ := h
  obtain ⟨u, w', rfl, ⟨t, rfl⟩, ⟨t', rfl⟩⟩ := vals2 r
  refine min_two_ints (I.ok.hd hc) fun h' tk k => ⟨_, H, I.kept k, ?_, q⟩
  by_cases hj : j < i
  · rw [if_pos hj, if_pos hj]; exact ⟨_, rfl⟩
  · rw [if_neg hj, if_neg hj]; exact ⟨_, rfl⟩
theorem call_int1 : CallR X (.type "int") (fun xs H Q => (∃ i, xs = [.int i] ∧ Q (.int i) H) ∨ ∃ k, xs = [.bl k] ∧ Q (.int (if k then 1 else 0)) H) := by
  intro pins s σ H xs us Q I r h
  rcases h with ⟨i, rfl, q⟩ | ⟨k, rfl, q⟩
  · obtain ⟨u, rfl, t, rfl⟩ := vals1 r
    exact call_int_int ⟨.int i, H, I, ⟨_, rfl⟩, q⟩
  · obtain ⟨u, rfl, r1⟩ := vals1 r
    cases r1
    exact call_int_bool ⟨.int (if k then 1 else 0), H, I.tok _, ⟨_, rfl⟩, q⟩
end
end L2
namespace L2
open PySem PySem.Spec PyProof.Rows
section
variable {prog : Program} {w : World} {A : Around} {E : Value → Shared → Prop} {s : Shared} {K : PySem.W.Frag} {x dx C f : Addr} {mA : Str → Option Value} {name : Str} {v : Value}
end
theorem RelO.some_of {v : V} {o : Option Value} (r : RelO (some v) o) : ∃ u, o = some u ∧ RelV v u := by
  cases o with
  | none => exact (show False from r).elim
  | some u => exact ⟨u, rfl, r⟩
section
variable {P : Program} {w : World} {H H' : Hp} {h h' : Heap} {a C dx : Addr} {fs fs' : List (Str × V)}
end
structure Cls (K : PySem.W.Frag) (C : Addr) : Prop where
  pg : PySem.W.plainGet K C Str.empty = true
  hd : PySem.W.hasDictIn K C = true
  po : PySem.W.plainOver K C = true
  sa : PySem.W.findIn K (.ref C) "__setattr__" = some (some (.builtin "object.__setattr__"))
theorem Cls.get {K : PySem.W.Frag} {C : Addr} (c : Cls K C) (f : Str) : PySem.W.plainGet K C f = true := c.pg
section
variable {X : Cx} {pins : List (Addr × Obj)} {σ : St} {H : Hp} {s : Shared} {a C dx : Addr} {fs : List (Str × V)} {f : Str} {v : V} {A : Around} {E : Value → Shared → Prop}
/-- a new instance, tracked, without attributes -/
theorem Inv.made (I : Inv X pins σ H s) : Inv X pins σ (upd (upd H s.heap.objs.size (.own (s.heap.objs.size + 1))) (s.heap.objs.size + 1) (.ins C s.heap.objs.size []))
    { s with heap := (s.heap.push PySem.W.emptyDict).push (PySem.W.instObj C s.heap.objs.size) } := by
  have e1 : (s.heap.push PySem.W.emptyDict).get? s.heap.objs.size = some PySem.W.emptyDict := Heap.get?_push_size s.heap rfl
  have e2 : ((s.heap.push PySem.W.emptyDict).push (PySem.W.instObj C s.heap.objs.size)).get? (s.heap.objs.size + 1) = some (PySem.W.instObj C s.heap.objs.size) := by
    have := Heap.get?_push_size (s.heap.push PySem.W.emptyDict) (o := PySem.W.instObj C s.heap.objs.size) rfl
    rwa [Heap.size_push] at this
  have e3 : (s.heap.push PySem.W.emptyDict).Ns s.heap.objs.size (fun _ => none) := ⟨PySem.W.emptyDict, #[], _, e1, rfl, (fun e he => absurd he (by simp)), fun _ => rfl⟩
  have I1 := I.laid (a := s.heap.objs.size) (o := .own (s.heap.objs.size + 1)) (h' := s.heap.push PySem.W.emptyDict) (t' := s.toks) (fun b u q => Heap.get?_push_of_some _ q) (Nat.le_refl _) ⟨_, e1⟩
  refine I1.laid (a := s.heap.objs.size + 1) (o := .ins C s.heap.objs.size []) (t' := s.toks) (fun b u q => Heap.get?_push_of_some _ q) (Nat.le_of_eq (Heap.size_push _ _)) ?_
  have ne : s.heap.objs.size ≠ s.heap.objs.size + 1 := Nat.ne_of_lt (Nat.lt_succ_self _)
  refine ⟨by rw [upd_ne ne, upd_same], Nat.zero_le _, ne, e2, fun _ => none, (Heap.Ns1.of_empty e3).at fun o q => Heap.get?_push_of_some _ q, fun _ => True.intro, fun y hy => absurd rfl hy⟩

end
section
variable {X : Cx} {o e value : Expr} {f : Str} {pos pos' tpos : Pos} {ta tv : TE}
end
section
variable {X : Cx} {pins : List (Addr × Obj)} {σ : St} {H : Hp} {s : Shared} {A : Around} {E : Value → Shared → Prop} {Q : Value → Shared → Prop} {c : Value} {b : Bool}
end
end L2
namespace L2
open PySem PySem.Spec PyProof.Rows
structure Room (k : Nat) (A : Around) : Prop where
  hd : A.handled = none
  dp : A.depth + 3 * k + 5 < recursionLimit
  un : A.units + 16 * k + 200 < cLine
theorem Room.mono {j k : Nat} {A : Around} (r : Room k A) (h : j ≤ k) : Room j A := ⟨r.hd, by have := r.dp; omega, by have := r.un; omega⟩
theorem Room.deeper {k : Nat} {A : Around} (r : Room (k + 1) A) (env : Env) : Room k (A.deeper env) :=
  ⟨r.hd, by have := r.dp; show A.depth + 1 + 3 * k + 5 < _; omega, by have := r.un; show A.units + 3 + 16 * k + 200 < _; omega⟩
theorem Room.in1 {k : Nat} {A : Around} (r : Room (k + 1) A) : Room k A.in1 :=
  ⟨r.hd, by have := r.dp; show A.depth + 3 * k + 5 < _; omega, by have := r.un; show A.units + 1 + 16 * k + 200 < _; omega⟩
theorem Room.depth {k : Nat} {A : Around} (r : Room k A) : A.depth < recursionLimit := by have := r.dp; omega
theorem Room.units {k : Nat} {A : Around} (r : Room k A) : A.units + 64 < cLine := by have := r.un; omega
def tNil : TA := fun _ H Q => Q [] H
def tCons (ta : TE) (tr : TA) : TA := fun σ H Q => ta σ H fun x H1 => tr σ H1 fun xs H2 => Q (x :: xs) H2
section
variable {X : Cx} {e : Expr} {es : List Expr} {te : TE} {t : TA} {pos : Pos}
theorem pa_nil : PA X [] tNil := fun _ _ _ _ H Q I h => Calls.spliced_nil ⟨[], H, I, .nil, h⟩
theorem pa_cons (ha : PE X e te) (hr : PA X es t) (hs : starEach (e :: es) X.env = (false, eval e X.env) :: starEach es X.env := by rfl) : PA X (e :: es) (tCons te t) := by
  intro pos pins s σ H Q I h
  rw [hs]
  show wpAny _ _ (spliced ((false, eval e X.env) :: backTo pos (starEach es X.env))) _ _ s
  refine Calls.spliced_cons (thn (ha pins s σ H _ I h) fun u s1 ⟨x, H1, I1, r1, q1⟩ => ?_)
  exact thn (hr pos pins s1 σ H1 _ I1 q1) fun us s2 ⟨xs, H2, I2, r2, q2⟩ => ⟨x :: xs, H2, I2, .cons r1 r2, q2⟩

/-- a tuple, a list of written items -/
def tTup (t : TA) : TE := fun σ H Q => t σ H fun xs H1 => xs.length ≤ sizeLine ∧ ∀ p, H1 p = none → Q (.ref p) (upd H1 p (.tup xs))
def tLst (t : TA) : TE := fun σ H Q => t σ H fun xs H1 => xs.length ≤ sizeLine ∧ ∀ p, H1 p = none → Q (.ref p) (upd H1 p (.lst xs))
theorem pe_tup {x1} (h : PA X es t) : PE X (.Tuple es x1 pos) (tTup t) := by
  intro pins s σ H Q I hq
  refine wpAny_Tuple_spliced (thn (h pos pins s σ H _ I hq) fun us s1 ⟨xs, H1, I1, r, z, q⟩ => ⟨by rw [← r.length]; exact z, ?_⟩)
  have hf : H1 s1.heap.objs.size = none := I1.hok.fresh (Nat.le_refl _)
  refine ⟨.ref s1.heap.objs.size, upd H1 s1.heap.objs.size (.tup xs), I1.laid (t' := s1.toks) (fun b u e => Heap.get?_push_of_some _ e) (Nat.le_refl _) ?_, rfl, q _ hf⟩
  exact ⟨z, us, r, ⟨_, Heap.get?_push_size _ rfl, rfl, _, rfl⟩⟩
theorem pe_lst (h : PA X es t) : PE X (.List es pos) (tLst t) := by
  intro pins s σ H Q I hq
  refine wpAny_List_spliced (thn (h pos pins s σ H _ I hq) fun us s1 ⟨xs, H1, I1, r, z, q⟩ => ⟨by rw [← r.length]; exact z, ?_⟩)
  have hf : H1 s1.heap.objs.size = none := I1.hok.fresh (Nat.le_refl _)
  refine ⟨.ref s1.heap.objs.size, upd H1 s1.heap.objs.size (.lst xs), I1.laid (t' := s1.toks) (fun b u e => Heap.get?_push_of_some _ e) (Nat.le_refl _) ?_, rfl, q _ hf⟩
  exact ⟨z, us, 0, r, Heap.get?_push_size _ rfl⟩
end
/-- a def's promise: the bound arguments in the parameters' order, the heap, the wanted end, the wanted exception -/
abbrev Sp := List V → Hp → VK → XK → Prop
/-- how an exception lies behind a call (file 08 gives it): the callers' frames, abstract heap and state ahead of the call, the wish, the exception, the state -/
abbrev CXT := List Env → Hp → Shared → XK → Value → Shared → Prop

/-- the state at a call -/
structure Env0 (P : Program) (w : World) (K : PySem.W.Frag) (mg : Str → Option Value) (base : Heap) (A : Around) (outer : List Env) (s : Shared) (H : Hp) : Prop where
  frames : A.frames = some outer
  mod : Mod K mg base
  bs : ∀ b o, base.get? b = some o → s.heap.get? b = some o ∧ H b = none
  bsz : base.objs.size ≤ s.heap.objs.size
  funs : s.heap.FunFrames base outer
  frf : ∀ b ∈ frs outer, H b = none
  hok : HOk P w H s.heap
  bare : AllBare s.gens
/-- a call's end -/
def CE (outer : List Env) (P : Program) (w : World) (H : Hp) (s : Shared) (Q : VK) (u : Value) (s' : Shared) : Prop :=
  ∃ v H', s'.os = s.os ∧ AllBare s'.gens ∧ Un (frs outer) [] H H' s.heap s'.heap ∧ HOk P w H' s'.heap ∧ RelV v u ∧ Q v H'
def CR (CX : CXT) (outer : List Env) (P : Program) (w : World) (H : Hp) (s : Shared) (Q : VK) (E : XK) (r : Result) (s' : Shared) : Prop :=
  match r with
  | .ok (.ret u) => CE outer P w H s Q u s'
  | .ok _ => False
  | .error e => CX outer H s E e s'
structure FnOk (P : Program) (w : World) (K : PySem.W.Frag) (mg : Str → Option Value) (base : Heap) (CX : CXT) (k : Nat) (f : Addr) (fd : FuncData) (ps : List Str) (sp : Sp) : Prop where
  len : ∀ vs H Q E, sp vs H Q E → vs.length = ps.length
  run : ∀ (A : Around) (outer : List Env) (s : Shared) (H : Hp) (args : Args) (us : List Value) (vs : List V) (Q : VK) (E : XK), Room k A → Env0 P w K mg base A outer s H → BindsTo s fd args (ps.zip us) → Vals vs us → sp vs H Q E →
    codeAny (model P w) A (.call (.ref f) args) (CR CX outer P w H s Q E) s
theorem FnOk.mono {P : Program} {w : World} {K : PySem.W.Frag} {mg : Str → Option Value} {base : Heap} {CX : CXT} {j k : Nat} {f : Addr} {fd : FuncData} {ps : List Str} {sp : Sp} (F : FnOk P w K mg base CX j f fd ps sp) (h : j ≤ k) :
    FnOk P w K mg base CX k f fd ps sp := ⟨F.len, fun A outer s H args us vs Q E hr => F.run A outer s H args us vs Q E (hr.mono h)⟩
/-- a weaker promise -/
theorem FnOk.imp {P : Program} {w : World} {K : PySem.W.Frag} {mg : Str → Option Value} {base : Heap} {CX : CXT} {k : Nat} {f : Addr} {fd : FuncData} {ps : List Str} {sp sp' : Sp} (F : FnOk P w K mg base CX k f fd ps sp)
    (h : ∀ vs H Q E, sp' vs H Q E → sp vs H Q E) : FnOk P w K mg base CX k f fd ps sp' :=
  ⟨fun vs H Q E q => F.len vs H Q E (h _ _ _ _ q), fun A outer s H args us vs Q E hr he hb hv hs => F.run A outer s H args us vs Q E hr he hb hv (h _ _ _ _ hs)⟩

theorem Env0.in1 {P : Program} {w : World} {K : PySem.W.Frag} {mg : Str → Option Value} {base : Heap} {A : Around} {outer : List Env} {s : Shared} {H : Hp} (e : Env0 P w K mg base A outer s H) :
    Env0 P w K mg base A.in1 outer s H := ⟨e.frames, e.mod, e.bs, e.bsz, e.funs, e.frf, e.hok, e.bare⟩

section
variable {X : Cx} {pins : List (Addr × Obj)} {σ : St} {H : Hp} {s s' : Shared}
/-- from a body: what a callee wants -/
theorem Inv.env0 (I : Inv X pins σ H s) : Env0 X.prog X.w X.K X.mg X.base X.A X.stack s H :=
  ⟨I.ok.frames, I.ok.mod, I.bs, Nat.le_trans I.ok.bsz I.sz, I.stack, I.stkFree, I.hok, I.bare⟩
/-- behind a call -/
theorem Inv.after {Q : VK} {u : Value} (I : Inv X pins σ H s) (h : CE X.stack X.prog X.w H s Q u s') : EP X pins σ Q u s' := by
  obtain ⟨v, H', os, bare, un, hok, r, q⟩ := h
  obtain ⟨hh, g, d, t, os'⟩ := s'
  obtain rfl : os' = s.os := os
  exact ⟨v, H', I.call (h' := hh) (g' := g) (d' := d) (t' := t) (ch := []) un hok bare (fun b z => absurd z (by simp)), r, q⟩
end
/-- f(..): the written arguments, then the defaults dvs; E: what is wanted of an exception -/
def tCall (sp : Sp) (dvs : List V) (E : XK) (t : TA) : TE := fun σ H Q => t σ H fun vs H1 => sp (vs ++ dvs) H1 Q E
/-- how the parameters are bound: us the positional arguments, kw the keywords' values by name, ds the defaults that fill up -/
def Binds (K : PySem.W.Frag) (fd : FuncData) (ps : List Str) (ds : List Value) : Prop :=
  ∀ (s : Shared) (us : List Value), K.In s.heap → (us ++ ds).length = ps.length → BindsTo s fd ⟨us, []⟩ (ps.zip (us ++ ds))
/-- every parameter is given -/
theorem Binds.all {K : PySem.W.Frag} {fd : FuncData} {ps : List Str} (h : ∀ us : List Value, us.length = ps.length → bindArgs fd ⟨us, []⟩ = pure (ps.zip us)) : Binds K fd ps [] := fun s us _ hl => by
  rw [List.append_nil] at hl ⊢
  exact .of_eq (h us hl)

/-- an exception of a callee reaches what this body wants of exceptions -/
def Passes (CX : CXT) (X : Cx) (E : XK) : Prop := ∀ (pins : List (Addr × Obj)) (σ : St) (H : Hp) (s : Shared) (e : Value) (s' : Shared), Inv X pins σ H s → CX X.stack H s E e s' → X.xe e s'

section
variable {X : Cx} {CX : CXT} {k : Nat} {f C : Addr} {fd : FuncData} {ps : List Str} {sp : Sp} {dvs : List V} {ds : List Value} {E : XK} {x m : Str} {p pos apos : Pos} {e o : Expr} {es : List Expr} {ta : TE} {t : TA}
/-- the callee runs -/
theorem run_fn {pins : List (Addr × Obj)} {σ : St} {H : Hp} {s : Shared} {Q : VK} {us : List Value} {vs : List V} (F : FnOk X.prog X.w X.K X.mg X.base CX k f fd ps sp) (hr : Room k X.A) (hb : Binds X.K fd ps ds) (hd : Vals dvs ds) (hx : Passes CX X E)
    (I : Inv X pins σ H s) (r : Vals vs us) (h : sp (vs ++ dvs) H Q E) : wpAny (model X.prog X.w) X.A (call (.ref f) us) (EP X pins σ Q) X.xe s := by
  have r2 : Vals (vs ++ dvs) (us ++ ds) := r.append hd
  have hl : (us ++ ds).length = ps.length := by rw [← r2.length]; exact F.len _ _ _ _ h
  refine wpAny_call (codeAny_mono (F.run X.A X.stack s H ⟨us, []⟩ (us ++ ds) (vs ++ dvs) Q E hr I.env0 (hb s us I.kIn hl) r2 h) fun r s' hq => ?_)
  cases r with
  | error e => exact hx pins σ H s e s' I hq
  | ok fl =>
    cases fl with
    | ret u => exact I.after hq
    | next => exact False.elim hq
    | brk => exact False.elim hq
    | cont => exact False.elim hq

theorem pe_call (F : FnOk X.prog X.w X.K X.mg X.base CX k f fd ps sp) (hr : Room k X.A) (hg : Gl X x) (hm : X.mg x = some (.ref f)) (hk : PySem.W.keepIn X.K (.ref f) = true) (hb : Binds X.K fd ps ds) (hd : Vals dvs ds) (hx : Passes CX X E)
    (ha : PA X (e :: es) t) (hdb : (x == ("__debug__" : Str)) = false := by decide) (he : starEach (e :: es) X.env = (false, eval e X.env) :: starEach es X.env := by rfl) (hpl : (backTo pos (starEach es X.env)).any (·.1) = false := by rfl) :
    PE X (.Call (.Name x p) (e :: es) [] pos) (tCall sp dvs E t) := by
  intro pins s σ H Q I h
  refine wpAny_Call_Name_kw (ld_glob I hg hm ?_ hdb)
  refine PySem.W.callWith_K (h₀ := X.base) I.ok.mod.kin hk (thn (ha pos pins s σ H _ I h) fun us s1 ⟨vs, H1, I1, r, q⟩ => ⟨I1.kIn, ?_⟩) he hpl
  exact run_fn F hr hb hd hx I1 r q
end
section
variable {X : Cx} {CX : CXT} {k : Nat} {f C : Addr} {fd : FuncData} {ps ks : List Str} {sp : Sp} {E : XK} {x m : Str} {p pos apos kpos : Pos} {e o : Expr} {es : List Expr} {kws : List Keyword} {te ta : TE} {t tk : TA} {nm : Option Str}
variable {g : List Value → List Value → List Value} {gV : List V → List V → List V}
end
/-- names: the parameters first -/
structure FnScope (N P : List Str) (sc : Scope) : Prop where
  kind : sc.kind = .function
  co : sc.isCoroutine = false
  gen : sc.isGenerator = false
  nd : N.Nodup
  pre : N.take P.length = P
  par : ∀ x ∈ P, sc.names.lookup x = some .local ∨ sc.names.lookup x = some .cell
  nofree : ∀ y ∈ sc.names, y.2 ≠ .free

theorem bindL_out {kindOf : Str → Option NameKind} {x : Str} : ∀ {binds : List (Str × Value)} {m : Str → Option Value}, (∀ v, (x, v) ∉ binds) → bindL kindOf binds m x = m x
  | [], _, _ => rfl
  | (n, v) :: r, m, h => by
    unfold bindL
    rw [bindL_out fun w hw => h w (List.mem_cons_of_mem _ hw)]
    split
    · have : x ≠ n := by rintro rfl; exact h v List.mem_cons_self
      simp [this]
    · rfl
theorem bindC_out {kindOf : Str → Option NameKind} {x : Str} : ∀ {binds : List (Str × Value)} {m : Str → Option Value}, (∀ v, (x, v) ∉ binds) → bindC kindOf binds m x = m x
  | [], _, _ => rfl
  | (n, v) :: r, m, h => by
    unfold bindC
    rw [bindC_out fun w hw => h w (List.mem_cons_of_mem _ hw)]
    split
    · rfl
    · have : x ≠ n := by rintro rfl; exact h v List.mem_cons_self
      simp [this]
theorem bindL_get {kindOf : Str → Option NameKind} {x : Str} {v : Value} : ∀ {P : List Str} {vs : List Value} {i : Nat} {m : Str → Option Value}, P.Nodup → P[i]? = some x → vs[i]? = some v → kindOf x = some .local →
    bindL kindOf (P.zip vs) m x = some v
  | [], _, _, _, _, h, _, _ => by simp at h
  | _ :: _, [], _, _, _, _, h, _ => by simp at h
  | p :: P, w :: vs, 0, m, nd, h1, h2, hk => by
    simp at h1 h2; subst h1; subst h2
    show bindL kindOf ((p, w) :: P.zip vs) m p = _
    unfold bindL
    rw [bindL_out fun v hv => (List.nodup_cons.mp nd).1 (List.of_mem_zip hv).1, if_pos hk]
    simp
  | p :: P, w :: vs, i + 1, m, nd, h1, h2, hk => by
    show bindL kindOf ((p, w) :: P.zip vs) m x = _
    unfold bindL
    exact bindL_get (i := i) (List.nodup_cons.mp nd).2 (by simpa using h1) (by simpa using h2) hk
theorem bindC_get {kindOf : Str → Option NameKind} {x : Str} {v : Value} : ∀ {P : List Str} {vs : List Value} {i : Nat} {m : Str → Option Value}, P.Nodup → P[i]? = some x → vs[i]? = some v → kindOf x ≠ some .local →
    bindC kindOf (P.zip vs) m x = some v
  | [], _, _, _, _, h, _, _ => by simp at h
  | _ :: _, [], _, _, _, _, h, _ => by simp at h
  | p :: P, w :: vs, 0, m, nd, h1, h2, hk => by
    simp at h1 h2; subst h1; subst h2
    show bindC kindOf ((p, w) :: P.zip vs) m p = _
    unfold bindC
    rw [bindC_out fun v hv => (List.nodup_cons.mp nd).1 (List.of_mem_zip hv).1, if_neg hk]
    simp
  | p :: P, w :: vs, i + 1, m, nd, h1, h2, hk => by
    show bindC kindOf ((p, w) :: P.zip vs) m x = _
    unfold bindC
    exact bindC_get (i := i) (List.nodup_cons.mp nd).2 (by simpa using h1) (by simpa using h2) hk

/-- the names' values at the entry -/
def start (N : List Str) (vs : List V) : St := vs.map some ++ List.replicate (N.length - vs.length) none

/-- the context of a def's body, at its entry; an exception leaves the frame, then lies as CX says -/
def cxOf (CX : CXT) (P : Program) (w : World) (K : PySem.W.Frag) (mg : Str → Option Value) (base : Heap) (N : List Str) (qual : Str) (scope : Scope) (f : Addr) (cd : Value) (A : Around) (outer : List Env) (s : Shared) (H : Hp) (E : XK) : Cx where
  prog := P
  w := w
  K := K
  mg := mg
  base := base
  A := A.deeper (envOfC qual scope s.heap.objs.size f cd)
  N := N
  s₀ := s
  H₀ := H
  env := envOfC qual scope s.heap.objs.size f cd
  outer := outer
  stack := envOfC qual scope s.heap.objs.size f cd :: outer
  ex := []
  calm := true
  fn := fun _ => true
  pn := []
  xe := fun e s' => wpAny (model P w) (A.deeper (envOfC qual scope s.heap.objs.size f cd)) (leaving (envOfC qual scope s.heap.objs.size f cd) e) (fun _ s'' => CX outer H s E e s'') (fun e' s'' => CX outer H s E e' s'') s'

theorem cell_has {sc : Scope} {n : Nat} {x : Str} (h : sc.names.lookup x = some .cell) : ∃ c, (cellsFrom n sc.names []).lookup x = some c := by
  have q := PySem.W.cellsFrom_some sc.names n [] (.inl h)
  exact Option.isSome_iff_exists.mp q

theorem inv_start {CX : CXT} {P : Program} {w : World} {K : PySem.W.Frag} {mg : Str → Option Value} {base : Heap} {N ps : List Str} {qual : Str} {scope : Scope} {f : Addr} {cd : Value} {A : Around} {outer : List Env} {s s1 : Shared} {H : Hp} {E : XK} {us : List Value} {vs : List V}
    (S : FnScope N ps scope) (hd : A.handled = none) (e0 : Env0 P w K mg base A outer s H) (hl : vs.length = ps.length) (r : Vals vs us)
    (x : InCallC s s.heap.objs.size (bindL (envOfC qual scope s.heap.objs.size f cd).kindOf (ps.zip us) fun _ => none) (cellsFrom (s.heap.objs.size + 1) scope.names []) (bindC (envOfC qual scope s.heap.objs.size f cd).kindOf (ps.zip us) fun _ => none) s1) :
    Inv (cxOf CX P w K mg base N qual scope f cd A outer s H E) [] (start N vs) H s1 := by
  have hpl : ps.length ≤ N.length := by have := congrArg List.length S.pre; rw [List.length_take] at this; omega
  obtain ⟨h1, tk, rfl, hk⟩ := x.done
  have noA : ∀ b : Addr, b ∉ (cxOf CX P w K mg base N qual scope f cd A outer s H E).ex := fun b z => absurd (show b ∈ ([] : List Addr) from z) (by simp)
  refine ⟨⟨e0.mod, S.kind, rfl, rfl, Nat.le_refl _, fun y z c h1 h2 => ?_, fun y hy => ?_, fun y c _ h => ?_, fun _ => hd, Around.frames_deeper e0.frames, .inr ⟨rfl, rfl⟩, fun b z => absurd z (noA b), e0.bs, e0.bsz, fun b _ _ => noA b, fun b z => absurd z (noA b), e0.funs, e0.frf⟩,
    rfl, e0.bare, Un.kept hk, ⟨_, x.toInCall.ns, fun i y v h1 h2 h3 => ?_⟩, fun y c h => ⟨_, x.cell y c h⟩, e0.hok.fresh (Nat.le_refl _), fun y c h => ?_, fun p hp => absurd (show p ∈ ([] : List (Addr × Obj)) from hp) (by simp), e0.hok.kept hk, ?_⟩
  · exact name_of_addr x.apart (PySem.mem_of_lookup h1) (PySem.mem_of_lookup h2)
  · have hy : scope.names.lookup y = some .cell ∨ scope.names.lookup y = some .free := hy
    rcases hy with hy | hy
    · exact cell_has hy
    · exact absurd rfl (S.nofree _ (PySem.mem_of_lookup hy))
  · exact Nat.le_of_lt (x.above y c (PySem.mem_of_lookup h))
  · have hi : i < vs.length := by
      unfold start at h2
      by_cases hi : i < vs.length
      · exact hi
      · rw [List.getElem?_append_right (by simpa using hi)] at h2
        rw [List.getElem?_replicate] at h2
        split at h2 <;> cases h2
    have ha : vs[i]? = some v := by
      unfold start at h2
      rw [List.getElem?_append_left (by simpa using hi), List.getElem?_map] at h2
      cases e : vs[i]? with
      | none => rw [e] at h2; cases h2
      | some a => rw [e] at h2; cases h2; rfl
    obtain ⟨u, hu, rv⟩ := r.get ha
    have hp : ps[i]? = some y := by
      rw [← S.pre, List.getElem?_take_of_lt (by omega)]; exact h1
    have ndP : ps.Nodup := by rw [← S.pre]; exact S.nd.sublist (List.take_sublist _ _)
    refine ⟨u, rv, ?_⟩
    rcases S.par y (List.mem_of_getElem? hp) with k | k
    · exact .inl ⟨k, bindL_get ndP hp hu k⟩
    · obtain ⟨c, e⟩ := cell_has (n := s.heap.objs.size + 1) k
      refine .inr ⟨.inl k, c, e, ?_⟩
      have q := x.cell y c e
      rw [bindC_get ndP hp hu (by show scope.names.lookup y ≠ _; rw [k]; decide)] at q
      exact q
  · exact e0.hok.fresh (Nat.le_of_lt (x.above y c (PySem.mem_of_lookup h)))
  · unfold start
    show _ = N.length
    rw [List.length_append, List.length_map, List.length_replicate]
    omega

/-- THE RULE: a def (or a method) of the text, by its body. The body's reading t is chosen for each entry; it is run at the parameters' values -/
theorem fn_of {CX : CXT} {P : Program} {w : World} {K : PySem.W.Frag} {mg : Str → Option Value} {base : Heap} {k : Nat} {f : Addr} {name qual : Str} {params : Arguments} {body : List Stmt} {scope : Scope} {dV kV doc pm cdv ct oc : Value} {an od : Option Addr}
    {osl : Array (Option Value)} {N ps : List Str} {sp : Sp} (lk : K.lookup f = some ⟨oc, od, .func (PySem.W.fnOf name qual params body scope dV kV doc pm an cdv ct), osl⟩) (hcd : PySem.W.codeIn K cdv qual = true) (S : FnScope N ps scope)
    (len : ∀ vs H Q E, sp vs H Q E → vs.length = ps.length)
    (hbody : ∀ (A : Around) (outer : List Env) (s : Shared) (H : Hp) (vs : List V) (Q : VK) (E : XK), Room k (A.deeper (envOfC qual scope s.heap.objs.size f cdv)) → sp vs H Q E →
      ∃ t, PSs (cxOf CX P w K mg base N qual scope f cdv A outer s H E) body t ∧ t { nx := fun _ H' => Q .non H', rt := Q } (start N vs) H) :
    FnOk P w K mg base CX (k + 1) f (PySem.W.fnOf name qual params body scope dV kV doc pm an cdv ct) ps sp := by
  refine ⟨len, fun A outer s H args us vs Q E hr e0 hb r hsp => ?_⟩
  have hl := len _ _ _ _ hsp
  have KX : K.In s.heap := e0.mod.kin.keeps fun b o e => (e0.bs b o e).1
  have lim : s.heap.NoLimit := e0.mod.nolimit.keeps fun b o e => (e0.bs b o e).1
  have hkind : ∀ y ∈ ps.zip us, scope.names.lookup y.1 = some .local ∨ (scope.names.lookup y.1 = some .cell ∧ ((cellsFrom (s.heap.objs.size + 1) scope.names []).lookup y.1).isSome = true) := fun ⟨n, v⟩ hy => by
    rcases S.par n (List.of_mem_zip hy).1 with q | q
    · exact .inl q
    · exact .inr ⟨q, PySem.W.cellsFrom_some _ _ _ (.inl q)⟩
  refine codeAny_call_function hr.depth (KX _ _ lk) rfl S.co S.gen rfl (PySem.W.codeRec_of KX hcd) (hb _ _ _ _ ?_)
  refine wpAny_newFunctionEnv_cells S.kind hkind fun env he s1 x => ?_
  subst he
  refine ⟨lim.keeps x.toInCall.keep, codeAny_func ?_⟩
  obtain ⟨t, ht, hq⟩ := hbody A outer s H vs Q E (hr.deeper _) hsp
  have I : Inv (cxOf CX P w K mg base N qual scope f cdv A outer s H E) [] (start N vs) H s1 := inv_start S hr.hd e0 hl r x
  refine wpAny_mono (ht [] s1 (start N vs) H _ I hq) (fun fl s' hs => ?_) fun e s' hs => hs
  have fin : ∀ {σ' : St} {H' : Hp} {v : V} {u : Value}, Inv (cxOf CX P w K mg base N qual scope f cdv A outer s H E) [] σ' H' s' → RelV v u → Q v H' → CE outer P w H s Q u s' :=
    fun {σ' H' v u} J rv q => ⟨v, H', J.os, J.bare, J.base, J.hok, rv, q⟩
  cases fl with
  | ret u =>
    obtain ⟨v, σ', H', J, rv, q⟩ := hs
    exact fin J rv q
  | next =>
    obtain ⟨σ', H', J, q⟩ := hs
    exact fin (v := V.non) (u := Value.none) J rfl q
  | brk =>
    obtain ⟨_, _, _, q⟩ := hs
    exact False.elim q
  | cont =>
    obtain ⟨_, _, _, q⟩ := hs
    exact False.elim q
end L2
namespace L2
open PySem PySem.Spec PyProof.Rows
section
variable {X : Cx} {x : Str} {p pos : Pos} {e : Expr} {es : List Expr} {t : TA} {id T : String} {r : List V → Hp → VK → Prop}
def tCB (r : List V → Hp → VK → Prop) (t : TA) : TE := fun σ H Q => t σ H fun vs H1 => r vs H1 Q
/-- f(e, ..), f a built-in function -/
theorem pe_callB (hc : CallR X (.builtin id) r) (hg : Gl X x) (hm : X.mg x = none) (hv : bootBuiltins x = some (.builtin id)) (ha : PA X (e :: es) t) (hn : x ≠ "__name__" := by decide) (hdb : (x == ("__debug__" : Str)) = false := by decide)
    (he : starEach (e :: es) X.env = (false, eval e X.env) :: starEach es X.env := by rfl) (hpl : (backTo pos (starEach es X.env)).any (·.1) = false := by rfl) : PE X (.Call (.Name x p) (e :: es) [] pos) (tCB r t) := by
  intro pins s σ H Q I h
  refine wpAny_Call_Name_kw (ld_blt I hg hm hv ?_ hn hdb)
  exact PyProof.Rows.callWith_builtin1 (thn (ha pos pins s σ H _ I h) fun us s1 ⟨vs, H1, I1, r1, q1⟩ => hc pins s1 σ H1 vs us Q I1 r1 q1) he hpl
/-- T(e, ..), T a built-in type -/
theorem pe_callTy (hc : CallR X (.type T) r) (hg : Gl X x) (hm : X.mg x = none) (hv : bootBuiltins x = some (.type T)) (ha : PA X (e :: es) t) (hn : x ≠ "__name__" := by decide) (hdb : (x == ("__debug__" : Str)) = false := by decide)
    (he : starEach (e :: es) X.env = (false, eval e X.env) :: starEach es X.env := by rfl) (hpl : (backTo pos (starEach es X.env)).any (·.1) = false := by rfl) : PE X (.Call (.Name x p) (e :: es) [] pos) (tCB r t) := by
  intro pins s σ H Q I h
  refine wpAny_Call_Name_kw (ld_blt I hg hm hv ?_ hn hdb)
  exact PyProof.Rows.callWith_type1 (thn (ha pos pins s σ H _ I h) fun us s1 ⟨vs, H1, I1, r1, q1⟩ => hc pins s1 σ H1 vs us Q I1 r1 q1) he hpl
end
end L2
namespace HT
open PySem PyProof.Rows
section
open PySem.SeqAt
open PySem.AutoSeq1 (wpAny_loadPart')
open PySem.MeetsSeq PySem.MeetsSeq2 PySem.MeetsSeq3
end
section
variable {prog : Program} {w : World} {A : Around} {E : Value → Shared → Prop} {s : Shared}
/-- t + u, t not empty -/
theorem cat_tup {t b : Addr} {vs ws : List Value} {Q : Value → Shared → Prop} (ht : IsTup s.heap t vs.toArray) (hb : IsTup s.heap b ws.toArray) (hv : vs ≠ [])
    (h1 : ws = [] → Q (.ref t) s) (h2 : ws ≠ [] → Q (.ref s.heap.objs.size) { s with heap := s.heap.push { cls := .type "tuple", data := .seq (vs ++ ws).toArray } })
    (hsz : vs.length + ws.length ≤ sizeLine) : wpAny (model prog w) A (binaryOp .Add (.ref t) (.ref b)) Q E s := by
  obtain ⟨⟨cls, dd, data, sl⟩, ho, hc, n, hd⟩ := id ht
  obtain ⟨⟨cls2, dd2, data2, sl2⟩, ho2, hc2, n2, hd2⟩ := id hb
  simp only at hc hd hc2 hd2
  subst hc hd hc2 hd2
  have e : vs.toArray ++ ws.toArray = (vs ++ ws).toArray := by simp
  by_cases hw : ws = []
  · exact concat_meets ⟨_, ho, rfl⟩ ⟨_, ho2, rfl⟩ noFill_tuple_add seq_tuple_add PySem.F.slot_tuple_add PySem.F.entry_tuple_add (PySem.F.args_tuple_add_2 _ _)
      (tuple_addW1 t b vs.toArray ws.toArray n n2 dd dd2 sl sl2 (by simpa using hv) (by simp [hw])) ⟨ho, ho2, h1 hw⟩
  · refine concat_meets ⟨_, ho, rfl⟩ ⟨_, ho2, rfl⟩ noFill_tuple_add seq_tuple_add PySem.F.slot_tuple_add PySem.F.entry_tuple_add (PySem.F.args_tuple_add_2 _ _)
      (tuple_addW2 t b vs.toArray ws.toArray n n2 dd dd2 sl sl2 (by simpa using hv) (by simpa using hw) (by rw [List.size_toArray, List.size_toArray]; exact hsz)) ⟨ho, ho2, ?_⟩
    rw [e]
    exact h2 hw

/-- a slice's bound as a place among n (d where it is left out) -/
def sIx (n d : Nat) : Option Int → Nat
  | none => d
  | some v => if v < 0 then (v + (n : Int)).toNat else min v.toNat n
theorem sIx_none (n d : Nat) : sIx n d none = d := rfl
end
end HT
namespace L2
open PySem PySem.Spec PyProof.Rows
abbrev TO := St → Hp → (Option Int → Hp → Prop) → Prop
/-- a slice's part (left out, or an int) -/
def PO (X : Cx) (e : Option Expr) (t : TO) : Prop :=
  ∀ (pins : List (Addr × Obj)) (s : Shared) (σ : St) (H : Hp) (Q : Option Int → Hp → Prop), Inv X pins σ H s → t σ H Q →
    wpAny (model X.prog X.w) X.A (evalPart e X.env) (fun u s' => ∃ o H', Inv X pins σ H' s' ∧ IsPart u o ∧ Q o H') X.xe s
def tNoPart : TO := fun _ H Q => Q none H
def tPart (t : TE) : TO := fun σ H Q => t σ H fun x H1 => ∃ i, x = .int i ∧ Q (some i) H1

section
variable {X : Cx} {e : Expr} {te : TE} {lo hi : Option Expr} {tl th : TO} {pos p2 : Pos}
theorem po_none : PO X none tNoPart := by
  intro pins s σ H Q I h
  rw [evalPart_none]
  exact wpAny_pure ⟨none, H, I, .none, h⟩
theorem po_some (h : PE X e te) : PO X (some e) (tPart te) := by
  intro pins s σ H Q I hw
  rw [evalPart_some]
  refine thn (h pins s σ H _ I hw) fun u s1 ⟨x, H1, I1, r1, q1⟩ => ?_
  obtain ⟨i, rfl, q⟩ := q1
  obtain ⟨t, rfl⟩ := r1
  exact ⟨some i, H1, I1, .int i t, q⟩

/-- what a slice of a value is, by values: the slice object stands at sl -/
def SlR (X : Cx) (r : V → Option Int → Option Int → Hp → VK → Prop) : Prop :=
  ∀ (pins : List (Addr × Obj)) (s : Shared) (σ : St) (H : Hp) (x : V) (v vl vu : Value) (lo hi : Option Int) (sl : Addr) (Q : VK), Inv X pins σ H s → RelV x v → s.heap.IsSliceOf sl vl vu .none → IsPart vl lo → IsPart vu hi → r x lo hi H Q →
    ∃ T id, typeLookup (.type T) "__getitem__" = pure (some (.builtin id)) ∧ s.TypeIs v T ∧ wpAny (model X.prog X.w) X.A (getItem v (.ref sl)) (EP X pins σ Q) X.xe s
theorem SlR.or {r r' : V → Option Int → Option Int → Hp → VK → Prop} (h : SlR X r) (h' : SlR X r') : SlR X (fun x lo hi H Q => r x lo hi H Q ∨ r' x lo hi H Q) := by
  intro pins s σ H x v vl vu lo hi sl Q I rx hs pl pu q
  rcases q with q | q
  · exact h pins s σ H x v vl vu lo hi sl Q I rx hs pl pu q
  · exact h' pins s σ H x v vl vu lo hi sl Q I rx hs pl pu q
def tSl (r : V → Option Int → Option Int → Hp → VK → Prop) (te : TE) (tl th : TO) : TE := fun σ H Q => te σ H fun x H1 => tl σ H1 fun l H2 => th σ H2 fun u H3 => r x l u H3 Q
/-- a[lo:hi], any a -/
theorem pe_slice {r : V → Option Int → Option Int → Hp → VK → Prop} (hr : SlR X r) (he : PE X e te) (hl : PO X lo tl) (hu : PO X hi th) : PE X (.Subscript e (.Slice lo hi none p2) pos) (tSl r te tl th) := by
  intro pins s σ H Q I h
  refine Subscript_ (thn (he pins s σ H _ I h) fun v s1 ⟨x, H1, I1, r1, q1⟩ => ?_)
  refine wpAny_Slice (thn (hl pins s1 σ H1 _ I1 q1) fun vl s2 ⟨l, H2, I2, pl, q2⟩ => thn (hu pins s2 σ H2 _ I2 q2) fun vu s3 ⟨u, H3, I3, pu, q3⟩ => ?_)
  rw [evalPart_none]
  refine wpAny_pure ?_
  have I4 : Inv X pins σ H3 { s3 with heap := s3.heap.push { cls := .type "slice", data := .fields #[vl, vu, .none] } } := I3.kept (t' := s3.toks) fun b ob q => Heap.get?_push_of_some _ q
  obtain ⟨T, id, hT, ht, hg⟩ := hr pins { s3 with heap := s3.heap.push { cls := .type "slice", data := .fields #[vl, vu, .none] } } σ H3 x v vl vu l u s3.heap.objs.size Q I4 r1 (Heap.IsSliceOf.new ..) pl pu q3
  show wpAny (model X.prog X.w) X.A (subscriptTail e (.Slice lo hi none p2) v (.ref s3.heap.objs.size)) (EP X pins σ Q) X.xe { s3 with heap := s3.heap.push { cls := .type "slice", data := .fields #[vl, vu, .none] } }
  exact tail_any (ops := [.ref s3.heap.objs.size, v]) ht hT hg (by with_unfolding_all rfl)

/-- the items of xs[lo:hi] -/
def cutV (xs : List V) (lo hi : Option Int) : List V := (xs.drop (HT.sIx xs.length 0 lo)).take (HT.sIx xs.length xs.length hi - HT.sIx xs.length 0 lo)
theorem cutV_length (xs : List V) (lo hi : Option Int) : (cutV xs lo hi).length ≤ xs.length := by
  unfold cutV
  rw [List.length_take, List.length_drop]
  omega
/-- t + u, t not empty: u empty gives t itself -/
def rCatT (K : PySem.W.Frag) : R2 := fun x y H Q => ∃ a b xs ys, x = .ref a ∧ y = .ref b ∧ SqT K H a xs ∧ SqT K H b ys ∧ xs ≠ [] ∧ xs.length + ys.length ≤ sizeLine ∧
  (ys = [] → Q (.ref a) H) ∧ (ys ≠ [] → ∀ p, H p = none → Q (.ref p) (upd H p (.tup (xs ++ ys))))
theorem Vals.nil_iff {xs : List V} {us : List Value} (r : Vals xs us) : us = [] ↔ xs = [] := by
  cases r with
  | nil => simp
  | cons _ _ => simp
theorem op_catT : OpR X (binaryOp .Add) (rCatT X.K) := by
  intro pins s σ H x y v u Q I rx ry h
  obtain ⟨a, b, xs, ys, rfl, rfl, ha, hb, hx, hz, q1, q2⟩ := h
  cases rx
  cases ry
  obtain ⟨its, r1, p1, _⟩ := I.tuple ha
  obtain ⟨its2, r2, p2, _⟩ := I.tuple hb
  refine HT.cat_tup p1 p2 (fun z => hx (r1.nil_iff.mp z)) (fun z => ⟨.ref a, H, I, rfl, q1 (r2.nil_iff.mp z)⟩) (fun z => ?_) (by rw [← r1.length, ← r2.length]; exact hz)
  refine ⟨.ref s.heap.objs.size, _, I.laid (t' := s.toks) (o := .tup (xs ++ ys)) (fun b ob q => Heap.get?_push_of_some _ q) (Nat.le_refl _) ?_, rfl, q2 (fun w => z (r2.nil_iff.mpr w)) _ (I.hok.fresh (Nat.le_refl _))⟩
  exact ⟨by rw [List.length_append]; exact hz, _, r1.append r2, IsTup.new _ _⟩
end
end L2
namespace L2
open PySem PySem.Spec PyProof.Rows
/-- the place that an index of any sign means -/
def ixN (n : Nat) (i : Int) : Option Nat := if 0 ≤ i then (if i < n then some i.toNat else none) else if -(n : Int) ≤ i then some (i + n).toNat else none
def atI {α : Type} (xs : List α) (i : Int) : Option α := (ixN xs.length i).bind fun j => xs[j]?
theorem ixN_seq {n : Nat} {i : Int} {j : Nat} (h : ixN n i = some j) : seqIndex? i n = some j ∧ j < n ∧ -(n : Int) ≤ i ∧ i < n := by
  unfold ixN at h
  by_cases h0 : 0 ≤ i
  · rw [if_pos h0] at h
    by_cases h1 : i < n
    · rw [if_pos h1] at h
      have e : i.toNat = j := Option.some.inj h
      exact ⟨by rw [seqIndex_of h0 h1, e], by omega, by omega, h1⟩
    · rw [if_neg h1] at h; cases h
  · rw [if_neg h0] at h
    by_cases h1 : -(n : Int) ≤ i
    · rw [if_pos h1] at h
      have e : (i + n).toNat = j := Option.some.inj h
      exact ⟨by rw [seqIndex_neg (by omega) h1, e], by omega, h1, by omega⟩
    · rw [if_neg h1] at h; cases h
theorem atI_get {α : Type} {xs : List α} {i : Int} {v : α} (h : atI xs i = some v) : ∃ j, seqIndex? i xs.length = some j ∧ xs[j]? = some v ∧ j < xs.length ∧ -(xs.length : Int) ≤ i ∧ i < xs.length := by
  unfold atI at h
  cases e : ixN xs.length i with
  | none => rw [e] at h; cases h
  | some j =>
    rw [e] at h
    obtain ⟨h1, h2, h3, h4⟩ := ixN_seq e
    exact ⟨j, h1, h, h2, h3, h4⟩
theorem atI_nat {α : Type} {xs : List α} {j : Nat} {v : α} (h : xs[j]? = some v) : atI xs (j : Int) = some v := by
  have hj : j < xs.length := (List.getElem?_eq_some_iff.mp h).1
  have e : ixN xs.length (j : Int) = some j := by
    unfold ixN
    rw [if_pos (by omega), if_pos (by omega)]; simp
  unfold atI; rw [e]; exact h
/-- what stands as an index of a plain subscript -/
def PlainIx (b : Expr) : Prop := ∀ o i, subscripted b false o i = operate [o, i] (getItem o i)
/-- a subscript by values -/
def IxR (X : Cx) (r : R2) : Prop :=
  ∀ (value slice : Expr) (pins : List (Addr × Obj)) (s : Shared) (σ : St) (H : Hp) (x y : V) (v u : Value) (Q : VK), Inv X pins σ H s → RelV x v → RelV y u → r x y H Q →
    subscripted slice false v u = operate [v, u] (getItem v u) → wpAny (model X.prog X.w) X.A (subscriptTail value slice v u) (EP X pins σ Q) X.xe s
/-- a call of a builtin's method by values: the receiver, the arguments -/
def MtR (X : Cx) (id : String) (r : V → List V → Hp → VK → Prop) : Prop :=
  ∀ (pins : List (Addr × Obj)) (s : Shared) (σ : St) (H : Hp) (x : V) (xs : List V) (v : Value) (us : List Value) (Q : VK), Inv X pins σ H s → RelV x v → Vals xs us → r x xs H Q →
    wpAny (model X.prog X.w) X.A (call (.builtin id) (v :: us)) (EP X pins σ Q) X.xe s
section
variable {X : Cx} {a b : Expr} {ta tb : TE} {pos : Pos}
theorem IxR.or {r r' : R2} (h : IxR X r) (h' : IxR X r') : IxR X (fun x y H Q => r x y H Q ∨ r' x y H Q) := by
  intro value slice pins s σ H x y v u Q I rx ry q hs
  rcases q with q | q
  · exact h value slice pins s σ H x y v u Q I rx ry q hs
  · exact h' value slice pins s σ H x y v u Q I rx ry q hs
theorem MtR.or {id : String} {r r' : V → List V → Hp → VK → Prop} (h : MtR X id r) (h' : MtR X id r') : MtR X id (fun x xs H Q => r x xs H Q ∨ r' x xs H Q) := by
  intro pins s σ H x xs v us Q I rx rs q
  rcases q with q | q
  · exact h pins s σ H x xs v us Q I rx rs q
  · exact h' pins s σ H x xs v us Q I rx rs q
/-- a[b] -/
theorem pe_ix {r : R2} (hr : IxR X r) (ha : PE X a ta) (hb : PE X b tb) (hs : PlainIx b) : PE X (.Subscript a b pos) (tOp r ta tb) := by
  intro pins s σ H Q I h
  exact Subscript_ (binT ha hb I h fun v u s2 x y H2 I2 rx ry q => hr a b pins s2 σ H2 x y v u Q I2 rx ry q (hs _ _))

def rIxL (K : PySem.W.Frag) : R2 := fun x y H Q => ∃ p xs i v, x = .ref p ∧ y = .int i ∧ SqL K H p xs ∧ atI xs i = some v ∧ Q v H
def rIxT (K : PySem.W.Frag) : R2 := fun x y H Q => ∃ p xs i v, x = .ref p ∧ y = .int i ∧ SqT K H p xs ∧ atI xs i = some v ∧ Q v H
def rIxS : R2 := fun x y H Q => ∃ z i c, x = .str z ∧ y = .int i ∧ z.length ≤ sizeLine ∧ atI z.cps.toList i = some c ∧ Q (.str ⟨#[c]⟩) H
theorem ix_list : IxR X (rIxL X.K) := by
  intro value slice pins s σ H x y v u Q I rx ry h hs
  obtain ⟨p, xs, i, z, rfl, rfl, hq, he, q⟩ := h
  cases rx
  obtain ⟨t, rfl⟩ := ry
  obtain ⟨its, r, pl, hz⟩ := I.list hq
  obtain ⟨j, h1, h2, h3, h4, h5⟩ := atI_get he
  obtain ⟨w, ew, rw'⟩ := r.get h2
  have hl := r.length
  have hn := line63
  have fin : EP X pins σ Q w s := ⟨z, H, I, rw', q⟩
  by_cases h0 : 0 ≤ i
  · have hj : i.toNat = j := by
      rw [seqIndex_of h0 h5] at h1
      exact Option.some.inj h1
    exact item_listR pl.isList h0 (by omega) (by rw [hj]; simpa using ew) fin hs
  · have hj : (i + (its.toArray.size : Int)).toNat = j := by
      rw [seqIndex_neg (by omega) h4] at h1
      rw [List.size_toArray, ← hl]
      exact Option.some.inj h1
    exact subscriptTail_builtinR (x := w) pl.isList.typeIs slot_list_getitem.lookup
      (wpAny_getItem_list_neg (Q := fun r s' => r = w ∧ EP X pins σ Q r s') pl.isList (by omega) (by rw [List.size_toArray] <;> omega) (by omega) (by rw [hj]; simpa using ew) ⟨rfl, fin⟩) hs
theorem ix_tup : IxR X (rIxT X.K) := by
  intro value slice pins s σ H x y v u Q I rx ry h hs
  obtain ⟨p, xs, i, z, rfl, rfl, hq, he, q⟩ := h
  cases rx
  obtain ⟨t, rfl⟩ := ry
  obtain ⟨its, r, pl, hz⟩ := I.tuple hq
  obtain ⟨j, h1, h2, h3, h4, h5⟩ := atI_get he
  obtain ⟨w, ew, rw'⟩ := r.get h2
  have hl := r.length
  have hn := line63
  have fin : EP X pins σ Q w s := ⟨z, H, I, rw', q⟩
  exact subscriptTail_builtinR (x := w) pl.typeIs slot_tuple_getitem.lookup
    (getItem_tuple (j := j) (Q := fun r s' => r = w ∧ EP X pins σ Q r s') pl (by omega) (by omega) (by rw [List.size_toArray, ← hl]; exact h1) (by simpa using ew) ⟨rfl, fin⟩) hs
theorem ix_str : IxR X rIxS := by
  intro value slice pins s σ H x y v u Q I rx ry h hs
  obtain ⟨z, i, c, rfl, rfl, hz, he, q⟩ := h
  obtain ⟨t, rfl⟩ := rx
  obtain ⟨t', rfl⟩ := ry
  obtain ⟨j, h1, h2, h3, h4, h5⟩ := atI_get he
  have hl : z.cps.toList.length = z.length := by simp [Str.length]
  rw [hl] at h1 h4 h5
  have hn := line63
  exact tail_any (typeIs_str s z t) slot_str_getitem.lookup (getItem_str (c := c) (by
    have e1 : decide (i < -(2 ^ 63 : Int)) = false := decide_eq_false (by omega)
    have e2 : decide (i ≥ 2 ^ 63) = false := decide_eq_false (by omega)
    rw [e1, e2, Bool.or_false]) (by rw [h1]; simpa using h2) ⟨.str ⟨#[c]⟩, H, I.tok _, ⟨_, rfl⟩, q⟩) hs
/-- the list's object behind a store -/
theorem mapSeq_set (its : List Value) (n j : Nat) (u : Value) : Obj.mapSeq (·.setIfInBounds j u) { cls := .type "list", data := .seq its.toArray n } = { cls := .type "list", data := .seq (its.set j u).toArray n } := by
  simp [Obj.mapSeq]
theorem Inv.lst {pins : List (Addr × Obj)} {σ : St} {H : Hp} {s : Shared} {p : Addr} {xs : List V} (I : Inv X pins σ H s) (h : H p = some (.lst xs)) :
    ∃ (its : List Value) (n : Nat), Vals xs its ∧ s.heap.get? p = some { cls := .type "list", data := .seq its.toArray n } ∧ xs.length ≤ sizeLine := by
  obtain ⟨z, its, n, r, e⟩ := I.hok p _ h
  exact ⟨its, n, r, e, z⟩
/-- the list at p is written by an update of its object -/
theorem Inv.lstUpd {pins : List (Addr × Obj)} {σ : St} {H : Hp} {s : Shared} {p : Addr} {xs ys : List V} {its its' : List Value} {n n' : Nat} {f : Obj → Obj} (I : Inv X pins σ H s) (h : H p = some (.lst xs))
    (ho : s.heap.get? p = some { cls := .type "list", data := .seq its.toArray n }) (hf : f { cls := .type "list", data := .seq its.toArray n } = { cls := .type "list", data := .seq its'.toArray n' }) (r : Vals ys its') (hz : ys.length ≤ sizeLine) (t : Nat) :
    Inv X pins σ (upd H p (.lst ys)) { s with heap := s.heap.update p f, toks := t } := by
  have e : (s.heap.update p f).get? p = some { cls := .type "list", data := .seq its'.toArray n' } := by
    rw [Heap.get?_update_self f ho (by rw [hf] <;> rfl), hf]
  refine I.write (x := p) (e := p) (by rw [h]; trivial) (.inl rfl) (fun b u hb q => (Heap.get?_update_other _ _ (Ne.symm hb)).trans q) ⟨_, e⟩ ?_
  exact ⟨hz, its', n', r, e⟩
def rSetL : V → V → V → Hp → (Hp → Prop) → Prop := fun o i v H Q => ∃ p xs k j, o = .ref p ∧ i = .int k ∧ H p = some (.lst xs) ∧ ixN xs.length k = some j ∧ Q (upd H p (.lst (xs.set j v)))
theorem set_list : PSet X rSetL := by
  intro pins s σ H o i v ov iv u Q I ro ri rv h
  obtain ⟨p, xs, k, j, rfl, rfl, hp, hj, q⟩ := h
  cases ro
  obtain ⟨t, rfl⟩ := ri
  obtain ⟨its, n, r, ho, hz⟩ := I.lst hp
  obtain ⟨h1, h2, h3, h4⟩ := ixN_seq hj
  have hl := r.length
  have hn := line63
  have I' : Inv X pins σ (upd H p (.lst (xs.set j v))) { s with heap := s.heap.update p (Obj.mapSeq (·.setIfInBounds j u)) } :=
    I.lstUpd hp ho (mapSeq_set its n j u) (r.set rv j) (by rw [List.length_set]; exact hz) s.toks
  by_cases h0 : 0 ≤ k
  · have hk : k.toNat = j := by
      rw [seqIndex_of h0 h4] at h1
      exact Option.some.inj h1
    exact PySem.W.ki_setAt ho h0 (by omega) (by rw [List.size_toArray, ← hl]; exact h4) (by rw [hk]; exact ⟨_, I', q⟩)
  · have hk : (k + (its.toArray.size : Int)).toNat = j := by
      rw [seqIndex_neg (by omega) h3] at h1
      rw [List.size_toArray, ← hl]
      exact Option.some.inj h1
    exact PySem.W.ki_setBack ho (by omega) (by rw [List.size_toArray, ← hl]; exact h3) (by omega) (by rw [hk]; exact ⟨_, I', q⟩)

theorem slice_bounds (lo hi : Option Int) (n : Nat) : (sliceBounds lo hi none n).1 = ((HT.sIx n 0 lo : Nat) : Int) ∧ (sliceBounds lo hi none n).2.1 = ((HT.sIx n n hi : Nat) : Int) ∧ (sliceBounds lo hi none n).2.2 = 1 := by
  refine ⟨?_, ?_, rfl⟩
  · cases lo with
    | none => simp [sliceBounds, HT.sIx]
    | some i =>
      simp only [sliceBounds, HT.sIx, Option.getD_none, show (1 : Int) > 0 by decide, if_true]
      by_cases h : i < 0
      · simp only [h, if_true] <;> omega
      · simp only [h, if_false] <;> omega
  · cases hi with
    | none => simp [sliceBounds, HT.sIx]
    | some i =>
      simp only [sliceBounds, HT.sIx, Option.getD_none, show (1 : Int) > 0 by decide, if_true]
      by_cases h : i < 0
      · simp only [h, if_true] <;> omega
      · simp only [h, if_false] <;> omega
theorem slicePick_cut (its : List Value) (lo hi : Option Int) : slicePick its.toArray lo hi none = ((its.drop (HT.sIx its.length 0 lo)).take (HT.sIx its.length its.length hi - HT.sIx its.length 0 lo)).toArray := by
  obtain ⟨h1, h2, h3⟩ := slice_bounds lo hi its.toArray.size
  unfold slicePick
  rw [h1, h2, h3]
  simp only [sliceRange_one, pick_run, List.size_toArray] <;> rfl
/-- xs[lo:hi] of a list: a new list -/
def rSlL (K : PySem.W.Frag) : V → Option Int → Option Int → Hp → VK → Prop := fun x lo hi H Q => ∃ a xs, x = .ref a ∧ SqL K H a xs ∧ ∀ p, H p = none → Q (.ref p) (upd H p (.lst (cutV xs lo hi)))
theorem sl_list : SlR X (rSlL X.K) := by
  intro pins s σ H x v vl vu lo hi sl Q I rx hs pl pu h
  obtain ⟨a, xs, rfl, hx, q⟩ := h
  cases rx
  obtain ⟨its, r, ht, hz⟩ := I.list hx
  have hlen := r.length
  refine ⟨"list", _, slot_list_getitem.lookup, ht.isList.typeIs, ?_⟩
  refine wpAny_getItem_list_slice ht.isList hs pl pu .none (by simp) ?_ (by rw [List.size_toArray] <;> omega)
  rw [slicePick_cut, ← hlen]
  refine ⟨.ref s.heap.objs.size, _, I.laid (t' := s.toks) (o := .lst (cutV xs lo hi)) (fun b ob q => Heap.get?_push_of_some _ q) (Nat.le_refl _) ?_, rfl, q _ (I.hok.fresh (Nat.le_refl _))⟩
  exact ⟨Nat.le_trans (cutV_length xs lo hi) hz, _, 0, (r.drop (HT.sIx xs.length 0 lo)).take (HT.sIx xs.length xs.length hi - HT.sIx xs.length 0 lo), Heap.get?_push_size _ rfl⟩

def flatV : V → Bool
  | .non => true
  | .bl _ => true
  | .int _ => true
  | .str _ => true
  | _ => false
/-- == of flat values -/
def eqV : V → V → Bool
  | .non, .non => true
  | .bl a, .bl b => a == b
  | .bl a, .int b => (if a then 1 else 0) == b
  | .int a, .bl b => a == (if b then 1 else 0)
  | .int a, .int b => a == b
  | .str a, .str b => a == b
  | _, _ => false
theorem eqAt_V {A : Around} {s : Shared} {y x : V} {u v : Value} (ry : RelV y u) (rx : RelV x v) (fy : flatV y = true) (fx : flatV x = true) : SeqAt.EqAt A s u v (eqV y x) := by
  cases y with
  | non =>
    cases ry
    cases x with
    | non => cases rx; exact SeqAt.EqAt.same _
    | bl b => cases rx; exact SeqAt.EqAt.none_bool b
    | int b => obtain ⟨t, rfl⟩ := rx; exact SeqAt.EqAt.none_int b t
    | str b => obtain ⟨t, rfl⟩ := rx; exact SeqAt.EqAt.none_str b t
    | _ => exact absurd (show false = true from fx) Bool.false_ne_true
  | bl a =>
    cases ry
    cases x with
    | non => cases rx; exact SeqAt.EqAt.bool_none a
    | bl b => cases rx; exact SeqAt.EqAt.bool_bool a b
    | int b => obtain ⟨t, rfl⟩ := rx; exact SeqAt.EqAt.bool_int a b t
    | str b => obtain ⟨t, rfl⟩ := rx; exact SeqAt.EqAt.bool_str a b t
    | _ => exact absurd (show false = true from fx) Bool.false_ne_true
  | int a =>
    obtain ⟨t', rfl⟩ := ry
    cases x with
    | non => cases rx; exact SeqAt.EqAt.int_none a t'
    | bl b => cases rx; exact SeqAt.EqAt.int_bool a t' b
    | int b => obtain ⟨t, rfl⟩ := rx; exact SeqAt.EqAt.int_int a t' b t
    | str b => obtain ⟨t, rfl⟩ := rx; exact SeqAt.EqAt.int_str a t' b t
    | _ => exact absurd (show false = true from fx) Bool.false_ne_true
  | str a =>
    obtain ⟨t', rfl⟩ := ry
    cases x with
    | non => cases rx; exact SeqAt.EqAt.str_none a t'
    | bl b => cases rx; exact SeqAt.EqAt.str_bool a t' b
    | int b => obtain ⟨t, rfl⟩ := rx; exact SeqAt.EqAt.str_int a t' b t
    | str b => obtain ⟨t, rfl⟩ := rx; exact SeqAt.EqAt.str_str a t' b t
    | _ => exact absurd (show false = true from fx) Bool.false_ne_true
  | _ => exact absurd (show false = true from fy) Bool.false_ne_true
/-- the items' answers, read off the values (a value's own answer does not lean on its token) -/
def eqU (x : V) (u : Value) : Bool := match u with
  | .none => eqV .non x
  | .bool b => eqV (.bl b) x
  | .int i _ => eqV (.int i) x
  | .str z _ => eqV (.str z) x
  | _ => false
theorem eqU_of {x y : V} {u : Value} (r : RelV y u) (f : flatV y = true) : eqU x u = eqV y x := by
  cases y with
  | non => cases r; rfl
  | bl b => cases r; rfl
  | int i => obtain ⟨t, rfl⟩ := r; rfl
  | str z => obtain ⟨t, rfl⟩ := r; rfl
  | _ => exact absurd (show false = true from f) Bool.false_ne_true
theorem any_eqU {x : V} : ∀ {xs : List V} {us : List Value}, Vals xs us → xs.all flatV = true → us.any (eqU x) = xs.any fun y => eqV y x
  | _, _, .nil, _ => rfl
  | y :: xs, u :: us, .cons r t, f => by
    rw [List.all_cons, Bool.and_eq_true] at f
    rw [List.any_cons, List.any_cons, eqU_of r f.1, any_eqU t f.2]
theorem mem_eqAt {A : Around} {s : Shared} {x : V} {v : Value} (rx : RelV x v) (fx : flatV x = true) : ∀ {xs : List V} {us : List Value}, Vals xs us → xs.all flatV = true → ∀ u ∈ us, SeqAt.EqAt A s u v (eqU x u)
  | _, _, .nil, _ => fun u hu => by cases hu
  | y :: xs, u :: us, .cons r t, f => fun u' hu => by
    rw [List.all_cons, Bool.and_eq_true] at f
    rcases List.mem_cons.mp hu with rfl | hu
    · rw [eqU_of r f.1]; exact eqAt_V r rx f.1 fx
    · exact mem_eqAt rx fx t f.2 u' hu
def inV (x : V) (xs : List V) : Bool := xs.any fun y => eqV y x
/-- x in a list or tuple of flat items -/
def rIn (K : PySem.W.Frag) (neg : Bool) : R2 := fun x y H Q => ∃ p xs, y = .ref p ∧ (SqL K H p xs ∨ SqT K H p xs) ∧ flatV x = true ∧ xs.all flatV = true ∧ Q (.bl (if neg then !inV x xs else inV x xs)) H
theorem op_in_seq : OpR X (compareOp .In) (rIn X.K false) := by
  intro pins s σ H x y v u Q I rx ry h
  obtain ⟨p, xs, rfl, hq, fx, fs, q⟩ := h
  cases ry
  rcases hq with hq | hq
  · obtain ⟨its, r, pl, hz⟩ := I.list hq
    refine SeqAt.in_listAt (eqU x) pl.isList (fun w hw => mem_eqAt rx fx r fs w (by simpa using hw)) ⟨.bl _, H, I, rfl, ?_⟩
    rw [show its.toArray.any (eqU x) = its.any (eqU x) by simp, any_eqU r fs]
    exact q
  · obtain ⟨its, r, pl, hz⟩ := I.tuple hq
    refine SeqAt.in_tupleAt (eqU x) pl (fun w hw => mem_eqAt rx fx r fs w (by simpa using hw)) ⟨.bl _, H, I, rfl, ?_⟩
    rw [show its.toArray.any (eqU x) = its.any (eqU x) by simp, any_eqU r fs]
    exact q
theorem op_notIn_seq : OpR X (compareOp .NotIn) (rIn X.K true) := by
  intro pins s σ H x y v u Q I rx ry h
  obtain ⟨p, xs, rfl, hq, fx, fs, q⟩ := h
  cases ry
  rcases hq with hq | hq
  · obtain ⟨its, r, pl, hz⟩ := I.list hq
    refine SeqAt.notIn_listAt (eqU x) pl.isList (fun w hw => mem_eqAt rx fx r fs w (by simpa using hw)) ⟨.bl _, H, I, rfl, ?_⟩
    rw [show its.toArray.any (eqU x) = its.any (eqU x) by simp, any_eqU r fs]
    exact q
  · obtain ⟨its, r, pl, hz⟩ := I.tuple hq
    refine SeqAt.notIn_tupleAt (eqU x) pl (fun w hw => mem_eqAt rx fx r fs w (by simpa using hw)) ⟨.bl _, H, I, rfl, ?_⟩
    rw [show its.toArray.any (eqU x) = its.any (eqU x) by simp, any_eqU r fs]
    exact q
theorem call_len_seq : CallR X (.builtin "len") (fun xs H Q => ∃ p ys, xs = [.ref p] ∧ (SqL X.K H p ys ∨ SqT X.K H p ys) ∧ Q (.int ys.length) H) := by
  intro pins s σ H xs us Q I r h
  obtain ⟨p, ys, rfl, hq, q⟩ := h
  obtain ⟨u, rfl, rx⟩ := vals1 r
  cases rx
  have hn := line63
  rcases hq with hq | hq
  · obtain ⟨its, r', pl, hz⟩ := I.list hq
    have hlen := r'.length
    exact Calls.call_len_list pl.isList (by simp only [List.size_toArray] <;> omega) ⟨.int ys.length, H, I.tok _, ⟨s.toks + 1, by rw [List.size_toArray, hlen]⟩, q⟩
  · obtain ⟨its, r', pl, hz⟩ := I.tuple hq
    have hlen := r'.length
    exact len_tuple pl (by simp only [List.size_toArray] <;> omega) ⟨.int ys.length, H, I.tok _, ⟨s.toks + 1, by rw [List.size_toArray, hlen]⟩, q⟩
theorem CallR.or {f : Value} {r r' : List V → Hp → VK → Prop} (h : CallR X f r) (h' : CallR X f r') : CallR X f (fun xs H Q => r xs H Q ∨ r' xs H Q) := by
  intro pins s σ H xs us Q I rs q
  rcases q with q | q
  · exact h pins s σ H xs us Q I rs q
  · exact h' pins s σ H xs us Q I rs q
theorem call_list_of : CallR X (.type "list") (fun xs H Q => ∃ p ys, xs = [.ref p] ∧ (SqL X.K H p ys ∨ SqT X.K H p ys) ∧ ∀ l, H l = none → Q (.ref l) (upd H l (.lst ys))) := by
  intro pins s σ H xs us Q I r h
  obtain ⟨p, ys, rfl, hq, q⟩ := h
  obtain ⟨u, rfl, rx⟩ := vals1 r
  cases rx
  have fin : ∀ (its : List Value), Vals ys its → ys.length ≤ sizeLine → ∀ (h' : Heap) (c' : Nat), (∀ b o', s.heap.get? b = some o' → h'.get? b = some o') →
      h'.get? s.heap.objs.size = some { cls := .type "list", dict := none, data := .seq its.toArray c', slots := #[] } → EP X pins σ Q (.ref s.heap.objs.size) { s with heap := h' } := fun its r' hz h' c' kp e =>
    ⟨.ref s.heap.objs.size, _, I.laid (t' := s.toks) kp (Nat.le_refl _) (show ObjOk X.prog X.w _ h' _ (.lst ys) from ⟨hz, its, c', r', e⟩), rfl, q _ (I.hok.fresh (Nat.le_refl _))⟩
  rcases hq with hq | hq
  · obtain ⟨its, r', pl, hz⟩ := I.list hq
    have hlen := r'.length
    obtain ⟨o, ho, hc, n, hd⟩ := pl.isList
    exact call_list_seq p (.inl rfl) ho hc hd (fun h' c' kp e => fin its r' hz h' c' kp e) (by simp only [List.size_toArray] <;> omega)
  · obtain ⟨its, r', pl, hz⟩ := I.tuple hq
    have hlen := r'.length
    obtain ⟨o, ho, hc, n, hd⟩ := pl
    exact call_list_seq p (.inr rfl) ho hc hd (fun h' c' kp e => fin its r' hz h' c' kp e) (by simp only [List.size_toArray] <;> omega)
/-- the value is of that builtin type -/
def tyV (K : PySem.W.Frag) (T : String) (x : V) (H : Hp) : Prop := match x with
  | .str _ => T = "str"
  | .int _ => T = "int"
  | .ref p => (T = "list" ∧ ∃ xs, SqL K H p xs) ∨ (T = "tuple" ∧ ∃ o, K.lookup p = some o ∧ o.cls = .type "tuple" ∧ o.dict = none) ∨
      (T = "dict" ∧ ((∃ kvs, H p = some (.dK kvs)) ∨ ∃ kvs, H p = some (.dT kvs))) ∨ (T = "set" ∧ ∃ S n, H p = some (.set S n))
  | _ => False
theorem tyV_is {pins : List (Addr × Obj)} {σ : St} {H : Hp} {s : Shared} {T : String} {x : V} {v : Value} (I : Inv X pins σ H s) (r : RelV x v) (ty : tyV X.K T x H) :
    s.TypeIs v T ∧ ∀ a, v = .ref a → ∃ ob, s.heap.get? a = some ob ∧ ob.dict = none := by
  cases x with
  | str z =>
    obtain ⟨t, rfl⟩ := r
    cases (show T = "str" from ty)
    exact ⟨typeIs_str s z t, fun _ e => nomatch e⟩
  | int i =>
    obtain ⟨t, rfl⟩ := r
    cases (show T = "int" from ty)
    exact ⟨typeIs_int s i t, fun _ e => nomatch e⟩
  | ref p =>
    cases r
    rcases ty with ⟨rfl, xs, hq⟩ | ⟨rfl, o, hk, hc, hd⟩ | ⟨rfl, hk⟩ | ⟨rfl, S, n, hk⟩
    · obtain ⟨its, _, pl, _⟩ := I.list hq
      refine ⟨pl.isList.typeIs, fun a e => ?_⟩
      cases e
      obtain ⟨o, n, e, c, hd, _⟩ := pl
      exact ⟨o, e, hd⟩
    · refine ⟨⟨o, I.kIn p o hk, hc⟩, fun a e => ?_⟩
      cases e
      exact ⟨o, I.kIn _ o hk, hd⟩
    · have z : ∃ o, s.heap.get? p = some o ∧ o.ExactDict := by
        rcases hk with ⟨kvs, hk⟩ | ⟨kvs, hk⟩
        · obtain ⟨_, _, _, _, o, _, _, e, ex, _⟩ := I.hok p _ hk
          exact ⟨o, e, ex⟩
        · obtain ⟨_, _, _, _, o, _, _, e, ex, _⟩ := I.hok p _ hk
          exact ⟨o, e, ex⟩
      obtain ⟨o, e, ex⟩ := z
      refine ⟨⟨o, e, ex.1⟩, fun a e2 => ?_⟩
      cases e2
      exact ⟨o, e, ex.2.1⟩
    · obtain ⟨o, _, _, _, e, ex, _⟩ := I.hok p _ hk
      refine ⟨⟨o, e, ex.1⟩, fun a e2 => ?_⟩
      cases e2
      exact ⟨o, e, ex.2.1⟩
  | _ => exact False.elim ty
def tBM (K : PySem.W.Frag) (T : String) (r : V → List V → Hp → VK → Prop) (to : TE) (t : TA) : TE := fun σ H Q => to σ H fun x H1 => tyV K T x H1 ∧ t σ H1 fun xs H2 => r x xs H2 Q
variable {o e : Expr} {es : List Expr} {to : TE} {t : TA} {name : Str} {apos cpos : Pos} {T id : String} {r : V → List V → Hp → VK → Prop}
theorem pe_bm (pa : PlainAttrs T) (slot : Slot T name id) (hty : typeOf (.builtin id) = pure (.type "method_descriptor")) (hm : MtR X id r) (ho : PE X o to) (ha : PA X (e :: es) t)
    (hbase : attributeBase o name X.env (eval o X.env) = eval o X.env := by rfl)
    (hfew : ((backTo cpos (starEach (e :: es) X.env)).all (fun x => !x.1) && (backToKw cpos (keywordEach [] X.env)).all (fun x => x.1.isSome)
      && decide ((e :: es).length + ([] : List Keyword).length + (if ([] : List Keyword).isEmpty then 0 else 1) < 30)) = true := by rfl)
    (hline : (apos.endLine == cpos.line) = true := by rfl) (hs : starEach (e :: es) X.env = (false, eval e X.env) :: starEach es X.env := by rfl) (hplain : (backTo cpos (starEach es X.env)).any (·.1) = false := by rfl) :
    PE X (.Call (.Attribute o name apos) (e :: es) [] cpos) (tBM X.K T r to t) := by
  intro pins s σ H Q I h
  refine wpAny_Call_method_late hbase hfew hline rfl (thn (ho pins s σ H _ I h) fun v s1 ⟨x, H1, I1, r1, ty, q1⟩ => ?_)
  obtain ⟨h1, h2⟩ := tyV_is I1 r1 ty
  refine ⟨T, id, pa, slot, hty, h1, h2, ?_⟩
  have hA := ha cpos pins s1 σ H1 _ I1 q1
  rw [hs] at hA ⊢
  refine Calls.callWith_builtin (by show (false || (backTo cpos (starEach es X.env)).any (·.1)) = false; rw [hplain] <;> rfl) (Calls.evalArgs_plain ?_)
  exact thn hA fun us s2 ⟨vs, H2, I2, r2, q2⟩ => hm pins s2 σ H2 x vs v us Q I2 r1 r2 q2
end
end L2
namespace L2
open PySem PySem.Spec PyProof.Rows
def MtM (X : Cx) (id : String) (r : V → List V → Hp → VK → Prop) : Prop :=
  ∀ (pins : List (Addr × Obj)) (s : Shared) (σ : St) (H : Hp) (x : V) (xs : List V) (v : Value) (us : List Value) (Q : VK), Inv X pins σ H s → RelV x v → Vals xs us → r x xs H Q →
    wpAny (model X.prog X.w) X.A (call (.builtin id) (v :: us)) (EP X pins σ Q) X.xe s

theorem Vals.one : ∀ {x : V} {us : List Value}, Vals [x] us → ∃ u, us = [u] ∧ RelV x u
  | _, _, .cons r .nil => ⟨_, rfl, r⟩
theorem Vals.two : ∀ {x y : V} {us : List Value}, Vals [x, y] us → ∃ u v, us = [u, v] ∧ RelV x u ∧ RelV y v
  | _, _, _, .cons r (.cons q .nil) => ⟨_, _, rfl, r, q⟩
theorem Vals.zero : ∀ {us : List Value}, Vals [] us → us = []
  | _, .nil => rfl
section
variable {X : Cx} {pins : List (Addr × Obj)} {σ : St} {H : Hp} {s : Shared} {l b : Addr} {xs ys zs : List V}
theorem Inv.lset {its its' : List Value} {n : Nat} {f : Array Value → Array Value} {t' : Nat} (I : Inv X pins σ H s) (hH : H l = some (.lst xs))
    (e : s.heap.get? l = some { cls := .type "list", data := .seq its.toArray n }) (hf : f its.toArray = its'.toArray) (hv : Vals ys its') (hz : ys.length ≤ sizeLine) :
    Inv X pins σ (upd H l (.lst ys)) { s with heap := s.heap.update l (Obj.mapSeq f), toks := t' } := by
  have q := PySem.IsL.update e f
  rw [hf] at q
  refine I.write (x := l) (e := l) (by rw [hH]; exact trivial) (.inl rfl) (fun b' u hb hu => (Heap.get?_update_other s.heap (Obj.mapSeq f) (Ne.symm hb)).trans hu) ⟨_, q⟩ ?_
  exact ⟨hz, its', _, hv, q⟩
theorem Inv.lnew {its : List Value} {t' : Nat} (I : Inv X pins σ H s) (hv : Vals ys its) (hz : ys.length ≤ sizeLine) :
    Inv X pins σ (upd H s.heap.objs.size (.lst ys)) { s with heap := s.heap.push { cls := .type "list", data := .seq its.toArray }, toks := t' } :=
  I.laid (fun _ _ q => Heap.get?_push_of_some _ q) (Nat.le_refl _) ⟨hz, its, 0, hv, Heap.get?_push_size _ rfl⟩
theorem Inv.fresh (I : Inv X pins σ H s) : H s.heap.objs.size = none := I.hok.fresh (Nat.le_refl _)
theorem Inv.lstM (I : Inv X pins σ H s) (hH : H l = some (.lst xs)) : xs.length ≤ sizeLine ∧ ∃ (its : List Value) (n : Nat), Vals xs its ∧ xs.length = its.length ∧ s.heap.get? l = some { cls := .type "list", data := .seq its.toArray n } := by
  obtain ⟨z, its, n, r, e⟩ := I.hok l _ hH
  exact ⟨z, its, n, r, r.length, e⟩

end
section
variable {X : Cx}
def rAppend : V → List V → Hp → VK → Prop := fun x vs H Q => ∃ l xs y, x = .ref l ∧ vs = [y] ∧ H l = some (.lst xs) ∧ xs.length < sizeLine ∧ Q .non (upd H l (.lst (xs ++ [y])))
theorem mt_append : MtM X "list.append" rAppend := by
  intro pins s σ H x vs v us Q I rx rv h
  obtain ⟨l, xs, y, rfl, rfl, hH, hz, q⟩ := h
  cases rx
  obtain ⟨u, rfl, ru⟩ := rv.one
  obtain ⟨z, its, n, r, hl, e⟩ := I.lstM hH
  refine call_meets F.slot_list_append ⟨_, e, rfl⟩ F.entry_list_append (F.args_list_append_2 _ _) (PySem.list_append l its.toArray n u (by rw [List.size_toArray]; omega)) ⟨e, ?_⟩
  refine ⟨.non, _, I.lset (its' := its ++ [u]) hH e (by simp) (r.append (.cons ru .nil)) ?_, rfl, q⟩
  rw [List.length_append, List.length_singleton]
  omega

def rCat : R2 := fun x y H Q => ∃ l b xs zs, x = .ref l ∧ y = .ref b ∧ H l = some (.lst xs) ∧ H b = some (.lst zs) ∧ xs.length + zs.length ≤ sizeLine ∧ ∀ p, H p = none → Q (.ref p) (upd H p (.lst (xs ++ zs)))
theorem op_cat : OpR X (binaryOp .Add) rCat := by
  intro pins s σ H x y v u Q I rx ry h
  obtain ⟨l, b, xs, zs, rfl, rfl, hH, hB, hz, q⟩ := h
  cases rx
  cases ry
  obtain ⟨z, its, n, r, hl, e⟩ := I.lstM hH
  obtain ⟨z2, its2, n2, r2, hl2, e2⟩ := I.lstM hB
  refine PySem.P.add_list e e2 ?_ (by rw [List.size_toArray, List.size_toArray]; omega)
  have ea : its.toArray ++ its2.toArray = (its ++ its2).toArray := by simp
  rw [ea]
  exact ⟨.ref _, _, I.lnew (t' := s.toks) (r.append r2) (by rw [List.length_append]; omega), rfl, q _ I.fresh⟩
end
section
variable {prog : Program} {w : World} {A : Around} {E : Value → Shared → Prop} {s : Shared}
end
section
variable {X : Cx}
end
end L2
namespace Att
open PySem PySem.W PySem.Calls PyProof.Rows
theorem ints_of_wellAll {P : Params} {h : Heap} : ∀ (ns : List Int) (vs : List Value), WellAll P h vs (ns.map WData.int) → IntsAre vs ns := by
  intro ns
  induction ns with
  | nil =>
    intro vs w
    rw [List.map_nil] at w
    cases w
    exact .nil
  | cons n ns ih =>
    intro vs w
    rw [List.map_cons] at w
    cases w with
    | cons a b =>
      cases a
      exact .cons _ _ (ih _ b)

theorem script_of {l : OpenLaw} {n : Nat} (hn : l.most = some n) {P : Params} {h : Heap} {args : List WData} {vals : List Value}
    (hpre : l.row.toRowW.claim.pre args = true) (hwl : WellAll P h vals args) :
    ∃ a vs ns, vals = [Value.ref a] ∧ args = [WData.list (ns.map WData.int)] ∧ h.get? a = some { cls := .type "list", data := .seq vs.toArray } ∧ IntsAre vs ns ∧ ns.length ≤ n := by
  have hsh : WShape.hasAll [] args [.list .int] = true := (pre_splitW hpre).1
  have hc : l.pre.holds [] { args := args } = true := (pre_splitW hpre).2
  obtain ⟨d, r, rfl, h1, h2⟩ := hasAllW_cons hsh
  obtain rfl := hasAllW_nil h2
  obtain ⟨xs, rfl, h3⟩ := hasW_list h1
  obtain ⟨ns, rfl⟩ := items_int h3
  have hlen : ns.length ≤ n := by
    unfold OpenLaw.pre at hc
    have h4 : (WTm.not (.lt (.lit (.int (n : Int))) (.len (.arg 0)))).holds [] { args := [.list (ns.map .int)] } = true := by
      have h4 := (holds_andW hc).1
      rw [hn] at h4
      exact h4
    have h5 := condW_of h4 (w_not (w_lt w_lit (w_len_list (w_arg rfl))))
    rw [List.length_map] at h5
    refine Nat.le_of_not_lt fun q => ?_
    have q' : (n : Int) < ((ns.length : Nat) : Int) := by omega
    first
      | (rw [decide_eq_true q'] at h5; exact absurd h5 (by decide))
      | (simp at h5; omega)
  cases hwl with
  | cons w1 w2 =>
    cases w2
    cases w1 with
    | list ho hall => exact ⟨_, _, ns, rfl, rfl, ho, ints_of_wellAll ns _ hall, hlen⟩

theorem post_true (l : OpenLaw) (args : List WData) : l.row.toRowW.claim.post args (.bool true) args = true :=
  postW_of (r := l.row.toRowW) (X := (true == true))
    (show WShape.has [] (.bool true) .bool = true by first | rfl | decide | simp [WShape.has, WShape.arms, WShape.armsAll])
    (show (WTm.eq .res (.lit (.bool true))).value [] { args := args, res := some (.bool true), after := args } = some (.bool (true == true)) from w_eq_bool (w_res rfl) w_lit) rfl

/-- the same from a codeAny of the CALL (for a layer whose function contracts speak of calls) -/
theorem attach_call {l : OpenLaw} {n : Nat} {q : Program} {loose : List Str} {XP : (Str → Option Value) → Heap → Prop} {YP : World → Heap → Prop} {d : DefRec}
    (hn : l.most = some n) (hdf : d.params.defaults = [])
    (call : ∀ (w : World) (s₀ s₁ : Shared) (mg mb : Str → Option Value) (fa : Addr) (o : Obj) (pm cd doc : Value) (a : Addr) (vs : List Value) (ns : List Int),
      Ground q loose [] XP w s₀ mg mb s₁.heap → YP w s₁.heap →
      s₁.heap.get? fa = some o → o.data = .func (docDef d.name d.params d.body d.scope pm cd doc) → s₁.heap.CodeRec cd d.name → mg d.name = some (.ref fa) →
      s₁.heap.get? a = some { cls := .type "list", data := .seq vs.toArray } → IntsAre vs ns → ns.length ≤ n → s₁.gens = #[] →
      codeAny (model l.prog w) callerA (.call (.ref fa) ⟨[.ref a], []⟩) (fun r s' => r = .ok (.ret (.bool true)) ∧ OldK s₁.heap s'.heap ∧ s'.os = s₁.os ∧ AllBare s'.gens) s₁) :
    WalkO q loose XP YP l.row.toRowW d [] (fun f vs => PySem.call f vs) := by
  intro w s₀ s₁ mg mb G Y fa o pm cd doc dV kV ho hd hcd hD hmg hg args vals as hpre hlay hrd hwl hlo
  obtain rfl : dV = .none := Dflts.none hD hdf
  obtain rfl : kV = .none := Dflts.noKw hD
  obtain ⟨a, vs, ns, rfl, rfl, hobj, hints, hlen⟩ := script_of hn hpre hwl
  refine enter_call (codeAny_mono (call w s₀ s₁ mg mb fa o pm cd doc a vs ns G Y ho (fd_plain hd) hcd hmg hobj hints hlen hg) fun r s' hq => ?_)
  obtain ⟨rfl, h2, h3, h4⟩ := hq
  exact ⟨.inl ⟨.bool true, .bool true, [], rfl, fun _ => rfl, .bool true, post_true l _, fun _ => ⟨List.Pairwise.nil, fun _ hm => (nomatch hm)⟩⟩, h2, h3, h4⟩

section
variable {prog : Program} {w : World} {A : Around} {E : Value → Shared → Prop} {s : Shared} {K : Frag}
end
end Att
namespace L2
open PySem PySem.Spec PyProof.Rows
theorem vals_ints : ∀ {vs : List Value} {ns : List Int}, IntsAre vs ns → Vals (ns.map V.int) vs
  | _, _, .nil => .nil
  | _, _, .cons n t h => .cons ⟨t, rfl⟩ (vals_ints h)

/-- nothing is tracked but the script, known to the object (or it is an object of the module) -/
def Only (H : Hp) : Prop := ∀ b, H b = none ∨ ∃ o xs, H b = some (.frz o (.lst xs))

/-- THE HEAD: the law's promise, at the heap behind the top. F, the promise of the law's def, may use that base is part of the heap (so K.In base, base.Ns mainGlobals mg stand in Mod) -/
theorem law_call {P : Program} {w : World} {K : PySem.W.Frag} {mg mb : Str → Option Value} {CX : CXT} {k : Nat} {fa a : Addr} {fd : FuncData} {x : Str} {sp : Sp} {s₁ : Shared} {vs : List Value} {ns : List Int}
    (KX : K.In s₁.heap) (hns : s₁.heap.Ns mainGlobals mg) (hb : s₁.heap.Ns builtinsNs mb) (hbb : ∀ x : Str, x ≠ "__name__" → mb x = bootBuiltins x) (hlim : s₁.heap.NoLimit) (hg : s₁.gens = #[])
    (ha : s₁.heap.get? a = some { cls := .type "list", data := .seq vs.toArray }) (hi : IntsAre vs ns) (hl : ns.length ≤ sizeLine) (hr : Room k callerA)
    (F : ∀ base : Heap, K.In base → base.Ns mainGlobals mg → FnOk P w K mg base CX k fa fd [x] sp) (hbind : ∀ (s : Shared) (u : Value), BindsTo s fd ⟨[u], []⟩ [(x, u)])
    (hsp : ∀ H : Hp, Only H → SqL K H a (ns.map V.int) → sp [.ref a] H (fun v _ => v = .bl true) fun _ _ _ => False)
    (hCX : ∀ H e s', CX [] H s₁ (fun _ _ _ => False) e s' → False) :
    codeAny (model P w) callerA (.call (.ref fa) ⟨[.ref a], []⟩) (fun r s' => r = .ok (.ret (.bool true)) ∧ OldK s₁.heap s'.heap ∧ s'.os = s₁.os ∧ AllBare s'.gens) s₁ := by
  have rv := vals_ints hi
  have lenV := hi.length
  -- from an abstract heap in which nothing but the script may be tracked
  have core : ∀ H : Hp, Only H → SqL K H a (ns.map V.int) → HOk P w H s₁.heap → (∀ b, H b ≠ none → b = a) → (H a ≠ none → K.lookup a = none) →
      codeAny (model P w) callerA (.call (.ref fa) ⟨[.ref a], []⟩) (fun r s' => r = .ok (.ret (.bool true)) ∧ OldK s₁.heap s'.heap ∧ s'.os = s₁.os ∧ AllBare s'.gens) s₁ := by
    intro H hO hS hok hA hK
    have base_of : ∀ {b : Addr} {o : Obj}, s₁.heap.get? b = some o → H b = none → (hidT s₁.heap H).get? b = some o := fun e n => hidT_get e n
    have noA : ∀ {b : Addr} {o : Obj} {es : Array DictEntry} {ep : Nat}, s₁.heap.get? b = some o → o.data = .dict es ep → H b = none := fun {b o es ep} e d => by
      cases q : H b with
      | none => rfl
      | some u =>
        have e' : b = a := hA b (by rw [q]; simp)
        subst e'
        rw [ha] at e; cases e
        have d' : Data.seq vs.toArray _ = Data.dict es ep := d
        cases d'
    have nsK : ∀ {b : Addr} {m : Str → Option Value}, s₁.heap.Ns b m → (hidT s₁.heap H).Ns b m := fun {b m} ⟨o, es, ep, e, d, r⟩ => ⟨o, es, ep, base_of e (noA e d), d, r⟩
    have hKb : K.In (hidT s₁.heap H) := fun b o e => base_of (KX b o e) (by
      cases q : H b with
      | none => rfl
      | some u =>
        have e' : b = a := hA b (by rw [q]; simp)
        subst e'
        rw [hK (by rw [q]; simp)] at e; cases e)
    have hM : Mod K mg (hidT s₁.heap H) := ⟨hKb, nsK hns, ⟨mb, nsK hb, hbb⟩, let ⟨mc, h1, h2⟩ := hlim; ⟨mc, nsK h1, h2⟩⟩
    have e0 : Env0 P w K mg (hidT s₁.heap H) callerA [] s₁ H := ⟨rfl, hM, fun b o e => of_hidT e, Nat.le_of_eq (hidT_size _ _), trivial, fun b hb => absurd (show b ∈ ([] : List Addr) from hb) (by simp), hok, .of_eq hg⟩
    refine codeAny_mono ((F _ hKb (nsK hns)).run callerA [] s₁ H ⟨[.ref a], []⟩ [.ref a] [.ref a] _ _ hr e0 (hbind s₁ (.ref a)) (.cons rfl .nil) (hsp H hO hS)) fun r s' h => ?_
    cases r with
    | error e => exact (hCX H e s' h).elim
    | ok fl =>
      cases fl with
      | next => exact False.elim h
      | brk => exact False.elim h
      | cont => exact False.elim h
      | ret u =>
        obtain ⟨v, H', os, bare, un, hok', r', q⟩ := h
        have q' : v = .bl true := q
        subst q'
        obtain rfl : u = Value.bool true := r'
        refine ⟨rfl, OldK.of_keep fun b o e => ?_, os, bare⟩
        cases q : H b with
        | none => exact un.keep b o e q (by intro z; exact absurd (show b ∈ ([] : List Addr) from z) (by simp)) (by simp)
        | some u =>
          rcases hO b with z | ⟨ob, xs, z⟩
          · rw [q] at z; cases z
          · have z2 := un.frzs b ob _ z
            obtain ⟨e1, _⟩ := hok b _ z
            obtain ⟨e2, _⟩ := hok' b _ z2
            rw [e] at e1; cases e1
            exact e2
  cases hk : K.lookup a with
  | some o =>
    -- the script is one of the module's own objects
    have e := KX a o hk
    rw [ha] at e
    cases e
    refine core (fun _ => none) (fun _ => .inl rfl) (.inr ⟨_, vs.toArray, _, hk, rfl, rfl, rfl, by rw [List.size_toArray, lenV]; exact hl, by simpa using rv⟩) (fun b u z => by have z' : (none : Option HO) = some u := z; cases z') (fun b z => absurd rfl z) fun z => absurd rfl z
  | none =>
    refine core (fun b => if b = a then some (.frz { cls := .type "list", data := .seq vs.toArray } (.lst (ns.map V.int))) else none) (fun b => ?_) (.inl (.inr ⟨{ cls := .type "list", data := .seq vs.toArray }, if_pos rfl⟩)) (fun b u z => ?_) (fun b z => ?_) fun _ => hk
    · by_cases hb : b = a
      · exact .inr ⟨_, _, if_pos hb⟩
      · exact .inl (if_neg hb)
    · by_cases hb : b = a
      · have z' := (if_pos hb).symm.trans z
        cases z'
        subst hb
        exact ⟨ha, by rw [List.length_map]; exact hl, vs, _, rv, ha⟩
      · have z' := (if_neg hb).symm.trans z
        cases z'
    · by_cases hb : b = a
      · exact hb
      · exact absurd (if_neg hb) z
end L2
namespace L2
open PySem PySem.Spec PyProof.Rows
/-- the goal that k_head leaves (case hc), from the law's promise. F gives the function object fd (K's own) once, then the promise over every base -/
theorem walk_of {l : PySem.W.OpenLaw} {n k : Nat} {q : Program} {loose : List Str} {XP : (Str → Option Value) → Heap → Prop} {YP : World → Heap → Prop} {d : DefRec} {K : Params → PySem.W.Frag} {CX : World → CXT} {sp : World → Sp} {x : Str}
    (hn : l.most = some n) (hn2 : n ≤ sizeLine) (hdf : d.params.defaults = []) (hr : Room k callerA)
    (hY : ∀ (w : World) (h : Heap), YP w h → (K w.params).In h)
    (F : ∀ (w : World) (mg : Str → Option Value) (fa : Addr) (h : Heap), (K w.params).In h → h.Ns mainGlobals mg → mg d.name = some (.ref fa) →
      ∃ fd : FuncData, (∀ (s : Shared) (u : Value), BindsTo s fd ⟨[u], []⟩ [(x, u)]) ∧
        ∀ base : Heap, (K w.params).In base → base.Ns mainGlobals mg → FnOk l.prog w (K w.params) mg base (CX w) k fa fd [x] (sp w))
    (hsp : ∀ (w : World) (H : Hp) (a : Addr) (ns : List Int), ns.length ≤ n → Only H → SqL (K w.params) H a (ns.map V.int) → sp w [.ref a] H (fun v _ => v = .bl true) fun _ _ _ => False)
    (hCX : ∀ (w : World) (H : Hp) (s : Shared) (e : Value) (s' : Shared), CX w [] H s (fun _ _ _ => False) e s' → False) :
    PySem.W.WalkO q loose XP YP l.row.toRowW d [] (fun f vs => PySem.call f vs) := by
  refine Att.attach_call hn hdf fun w s₀ s₁ mg mb fa o pm cd doc a vs ns G Y ho hd hcd hmg hobj hints hlen hg => ?_
  have KX := hY w _ Y
  obtain ⟨fd, hb, hF⟩ := F w mg fa _ KX G.T.g hmg
  exact law_call KX G.T.g G.T.b G.T.builtins G.T.nolimit hg hobj hints (Nat.le_trans hlen hn2) hr hF hb (fun H hO hS => hsp w H a ns hlen hO hS) fun H e s' => hCX w H s₁ e s'
end L2
namespace L2
open PySem PySem.Spec PyProof.Rows
def defArgs (s : Stmt) : Arguments := match s with
  | .FunctionDef _ a _ _ _ _ _ _ _ _ => a
  | _ => { posonlyargs := [], args := [], vararg := none, kwonlyargs := [], kw_defaults := [], kwarg := none, defaults := [] }
def defBody (s : Stmt) : List Stmt := match s with
  | .FunctionDef _ _ b _ _ _ _ _ _ _ => b
  | _ => []
def defScope (s : Stmt) : Scope := match s with
  | .FunctionDef _ _ _ _ _ _ sc _ _ _ => sc
  | _ => { kind := .function, names := [], isGenerator := false, isCoroutine := false }

abbrev CX0 : CXT := fun _ _ _ _ _ _ => False
abbrev E0 : XK := fun _ _ _ => False
structure Fun (K : PySem.W.Frag) (x qual : Str) (st : Stmt) (f : Addr) (fd : FuncData) : Prop where
  ex : ∃ (oc : Value) (od : Option Addr) (kV doc pm : Value) (an : Option Addr) (cdv ct : Value) (osl : Array (Option Value)),
    fd = PySem.W.fnOf x qual (defArgs st) (defBody st) (defScope st) .none kV doc pm an cdv ct ∧ K.lookup f = some ⟨oc, od, .func fd, osl⟩ ∧ PySem.W.codeIn K cdv qual = true
  kp : PySem.W.keepIn K (.ref f) = true
section
variable {P : Program} {w : World} {K : PySem.W.Frag} {mg : Str → Option Value} {base : Heap}
/-- THE RULE for a def: its body as a term of rules, and the reading of that term -/
theorem Fun.ok {x qual : Str} {st : Stmt} {f : Addr} {fd : FuncData} {N ps : List Str} {k : Nat} {sp : Sp} (F : Fun K x qual st f fd) (S : FnScope N ps (defScope st)) (len : ∀ vs H Q E, sp vs H Q E → vs.length = ps.length)
    (hbody : ∀ (cdv : Value) (A : Around) (outer : List Env) (s : Shared) (H : Hp) (vs : List V) (Q : VK) (E : XK), Room k (A.deeper (envOfC qual (defScope st) s.heap.objs.size f cdv)) → sp vs H Q E →
      ∃ t, PSs (cxOf CX0 P w K mg base N qual (defScope st) f cdv A outer s H E).nox (defBody st) t ∧ t { nx := fun _ H' => Q .non H', rt := Q } (start N vs) H) : FnOk P w K mg base CX0 (k + 1) f fd ps sp := by
  obtain ⟨oc, od, kV, doc, pm, an, cdv, ct, osl, rfl, lk, hcd⟩ := F.ex
  refine fn_of lk hcd S len fun A outer s H vs Q E hr hsp => ?_
  obtain ⟨t, h, q⟩ := hbody cdv A outer s H vs Q E hr hsp
  exact ⟨t, h.nox, q⟩
/-- how its arguments bind (no defaults): h is «fun _ _ _ _ _ _ us hl => match us, hl with | [_, _], _ => rfl», one _ a parameter -/
theorem Fun.binds {x qual : Str} {st : Stmt} {f : Addr} {fd : FuncData} {ps : List Str} (F : Fun K x qual st f fd)
    (h : ∀ (kV doc pm : Value) (an : Option Addr) (cdv ct : Value) (us : List Value), us.length = ps.length → bindArgs (PySem.W.fnOf x qual (defArgs st) (defBody st) (defScope st) .none kV doc pm an cdv ct) ⟨us, []⟩ = pure (ps.zip us)) : Binds K fd ps [] := by
  obtain ⟨oc, od, kV, doc, pm, an, cdv, ct, osl, rfl, lk, hcd⟩ := F.ex
  exact .all (h kV doc pm an cdv ct)
theorem fun_mk {x qual : Str} {st : Stmt} {f : Addr} {oc : Value} {od an : Option Addr} {osl : Array (Option Value)} {kV doc pm cdv ct : Value} (l : K.lookup f = some ⟨oc, od, .func (PySem.W.fnOf x qual (defArgs st) (defBody st) (defScope st) .none kV doc pm an cdv ct), osl⟩)
    (c : PySem.W.codeIn K cdv qual = true) (k : PySem.W.keepIn K (.ref f) = true) : Fun K x qual st f (PySem.W.fnOf x qual (defArgs st) (defBody st) (defScope st) .none kV doc pm an cdv ct) := ⟨⟨oc, od, kV, doc, pm, an, cdv, ct, osl, rfl, l, c⟩, k⟩
end
theorem small1000 {n : Nat} (h : n ≤ 1000) : n < sizeLine := Nat.lt_of_le_of_lt h (by decide)

section
variable {X : Cx}
theorem pv (i : Nat) {x : Str} {pos : Pos} (hN : X.N[i]? = some x := by rfl) (hv : Vis X.env.scope x := by first | exact Or.inl rfl | exact Or.inr (Or.inl rfl) | exact Or.inr (Or.inr rfl)) (hd : (x == ("__debug__" : Str)) = false := by decide)
    (hcd : (x == ("__classdict__" : Str)) = false := by decide) : PE X (.Name x pos) (tVar i) := pe_var hN hv hd hcd
end
theorem iteF {A B : Prop} (h : B) : if false = true then A else B := by
  rw [if_neg Bool.false_ne_true]
  exact h
theorem iteT {A B : Prop} (h : A) : if true = true then A else B := by
  rw [if_pos rfl]
  exact h
/-- all that was tracked is as it was -/
def Same (H H' : Hp) : Prop := ∀ b o, H b = some o → H' b = some o
theorem Same.refl (H : Hp) : Same H H := fun _ _ h => h
theorem Same.trans {H H1 H2 : Hp} (a : Same H H1) (b : Same H1 H2) : Same H H2 := fun c o h => b c o (a c o h)
theorem Same.free {H H' : Hp} (e : Same H H') {l : Addr} (h : H' l = Option.none) : H l = Option.none := by
  cases q : H l with
  | none => rfl
  | some o =>
    rw [e l o q] at h
    cases h
theorem Same.seq {K : PySem.W.Frag} {H H' : Hp} {a : Addr} {xs : List V} (e : Same H H') (h : SqL K H a xs) : SqL K H' a xs := by
  rcases h with (h | ⟨o, h⟩) | h
  · exact .inl (.inl (e _ _ h))
  · exact .inl (.inr ⟨o, e _ _ h⟩)
  · exact .inr h

end L2
section
set_option Elab.async false
set_option linter.all false
set_option maxRecDepth 100000
namespace L2
open PySem PySem.Spec PyProof.Rows
section
variable {κ : Type} [DecidableEq κ]
def valV (kvs : List (κ × V)) (k : κ) : Option V := (kvs.find? fun kv => decide (kv.1 = k)).map (·.2)
/-- in its place, or at the end -/
def putK (kvs : List (κ × V)) (k : κ) (v : V) : List (κ × V) :=
  if (kvs.any fun kv => decide (kv.1 = k)) = true then kvs.map (fun kv => if kv.1 = k then (kv.1, v) else kv) else kvs ++ [(k, v)]
def dropK (kvs : List (κ × V)) (k : κ) : List (κ × V) := kvs.filter fun kv => decide (kv.1 ≠ k)

theorem valV_pos {p : κ × V} {r : List (κ × V)} {k : κ} (e : p.1 = k) : valV (p :: r) k = some p.2 := by simp [valV, List.find?_cons, e]
theorem valV_neg {p : κ × V} {r : List (κ × V)} {k : κ} (e : ¬ p.1 = k) : valV (p :: r) k = valV r k := by simp [valV, List.find?_cons, e]
theorem valV_any (k : κ) : ∀ kvs : List (κ × V), (kvs.any fun kv => decide (kv.1 = k)) = (valV kvs k).isSome
  | [] => rfl
  | p :: r => by
    rw [List.any_cons]
    by_cases e : p.1 = k
    · simp only [valV_pos e, decide_eq_true e, Bool.true_or, Option.isSome_some]
    · rw [valV_neg e, decide_eq_false e, Bool.false_or]; exact valV_any k r
theorem length_putK (kvs : List (κ × V)) (k : κ) (v : V) : (putK kvs k v).length ≤ kvs.length + 1 := by
  unfold putK
  split
  · rw [List.length_map]; omega
  · rw [List.length_append, List.length_cons, List.length_nil]; omega
theorem RelO.isSome_eq {o : Option V} {u : Option Value} (r : RelO o u) : o.isSome = u.isSome := by
  cases o with
  | none => cases u with
    | none => rfl
    | some _ => exact (show False from r).elim
  | some _ => cases u with
    | none => exact (show False from r).elim
    | some _ => rfl
theorem RelO.getD {o : Option V} {u : Option Value} {d : V} {d' : Value} (r : RelO o u) (rd : RelV d d') : RelV (o.getD d) (u.getD d') := by
  cases o with
  | none => cases u with
    | none => exact rd
    | some _ => exact (show False from r).elim
  | some _ => cases u with
    | none => exact (show False from r).elim
    | some _ => exact r

/-- raw tables of the same keys -/
theorem KV.val {kvs : List (κ × V)} {vs : List (κ × Value)} (r : KV kvs vs) (k : κ) : RelO (valV kvs k) (valueAt vs k) := by
  unfold KV at r
  induction r with
  | nil => exact True.intro
  | @cons p q ps qs h t ih =>
    obtain ⟨h1, h2⟩ := h
    by_cases e : p.1 = k
    · have e' : q.1 = k := h1.symm.trans e
      have b : valueAt (q :: qs) k = some q.2 := by simp [valueAt, List.find?_cons, e']
      rw [valV_pos e, b]; exact h2
    · have e' : ¬ q.1 = k := fun z => e (h1.trans z)
      have b : valueAt (q :: qs) k = valueAt qs k := by simp [valueAt, List.find?_cons, e']
      rw [valV_neg e, b]; exact ih
theorem KV.any {kvs : List (κ × V)} {vs : List (κ × Value)} (r : KV kvs vs) (k : κ) : (kvs.any fun kv => decide (kv.1 = k)) = vs.any fun kv => decide (kv.1 = k) := by
  unfold KV at r
  induction r with
  | nil => rfl
  | cons h t ih => rw [List.any_cons, List.any_cons, ih, h.1]
theorem KV.repl {kvs : List (κ × V)} {vs : List (κ × Value)} (r : KV kvs vs) (k : κ) {y : V} {u : Value} (ry : RelV y u) :
    KV (kvs.map fun kv => if kv.1 = k then (kv.1, y) else kv) (vs.map fun kv => if kv.1 = k then (kv.1, u) else kv) := by
  unfold KV at r ⊢
  induction r with
  | nil => exact .nil
  | @cons p q ps qs h t ih =>
    rw [List.map_cons, List.map_cons]
    refine .cons ?_ ih
    obtain ⟨h1, h2⟩ := h
    by_cases e : p.1 = k
    · rw [if_pos e, if_pos (h1.symm.trans e)]; exact ⟨h1, ry⟩
    · rw [if_neg e, if_neg (fun z => e (h1.trans z))]; exact ⟨h1, h2⟩
theorem KV.put {kvs : List (κ × V)} {vs : List (κ × Value)} (r : KV kvs vs) (k : κ) {y : V} {u : Value} (ry : RelV y u) : KV (putK kvs k y) (stored vs k u) := by
  unfold putK stored
  rw [r.any k]
  by_cases e : (vs.any fun kv => decide (kv.1 = k)) = true
  · rw [if_pos e, if_pos e]; exact r.repl k ry
  · rw [if_neg e, if_neg e]; exact Paired.snoc r ⟨rfl, ry⟩
theorem KV.drop {kvs : List (κ × V)} {vs : List (κ × Value)} (r : KV kvs vs) (k : κ) : KV (dropK kvs k) (without vs k) := by
  unfold KV at r ⊢
  unfold dropK without
  induction r with
  | nil => exact .nil
  | @cons p q ps qs h t ih =>
    obtain ⟨h1, h2⟩ := h
    rw [List.filter_cons, List.filter_cons]
    by_cases e : p.1 = k
    · have a : ¬ decide (p.1 ≠ k) = true := by simp [e]
      have b : ¬ decide (q.1 ≠ k) = true := by simp [h1.symm.trans e]
      rw [if_neg a, if_neg b]; exact ih
    · have e' : ¬ q.1 = k := fun z => e (h1.trans z)
      have a : decide (p.1 ≠ k) = true := by simp [e]
      have b : decide (q.1 ≠ k) = true := by simp [e']
      rw [if_pos a, if_pos b]; exact .cons ⟨h1, h2⟩ ih
theorem KV.keys {kvs : List (κ × V)} {vs : List (κ × Value)} (r : KV kvs vs) : kvs.map (·.1) = vs.map (·.1) := by
  unfold KV at r
  induction r with
  | nil => rfl
  | cons h t ih => rw [List.map_cons, List.map_cons, ih, h.1]
theorem KV.length {kvs : List (κ × V)} {vs : List (κ × Value)} (r : KV kvs vs) : kvs.length = vs.length := Paired.length r
end
theorem kV_is {P : Program} {w : World} {k : Key} {u : Value} (r : RelV (kV k) u) : (mixKind P w).is k u = true := by
  cases k with
  | inl i => obtain ⟨t, e⟩ := (show ∃ t, u = Value.int i t from r); subst e; exact mixKind_int P w i t
  | inr x => obtain ⟨t, e⟩ := (show ∃ t, u = Value.str x t from r); subst e; exact mixKind_str P w x t
theorem items_are {P : Program} {w : World} : ∀ {ks : List Key} {us : List Value}, Vals (ks.map kV) us → ItemsAre (mixKind P w) ks us
  | [], _, r => by rw [List.map_nil] at r; cases r; exact .nil
  | k :: ks, _, r => by
    rw [List.map_cons] at r
    cases r with
    | cons h t => exact .cons (kV_is h) (items_are t)

/-- raw entries of a dict with tuple keys -/
abbrev KT (H : Hp) : List (List Key × V) → List (List Key × Addr × Value) → Prop := Paired fun p q => p.1 = q.1 ∧ H q.2.1 = some (.tup (p.1.map kV)) ∧ RelV p.2 q.2.2
theorem KT.val {H : Hp} {kvs : List (List Key × V)} {xs : List (List Key × Addr × Value)} (r : KT H kvs xs) (k : List Key) : RelO (valV kvs k) ((atKey xs k).map (·.2)) := by
  induction r with
  | nil => exact True.intro
  | @cons p q ps qs h t ih =>
    obtain ⟨h1, _, h2⟩ := h
    by_cases e : p.1 = k
    · have e' : q.1 = k := h1.symm.trans e
      have b : atKey (q :: qs) k = some q.2 := by simp [atKey, List.find?_cons, e']
      rw [valV_pos e, b]; exact h2
    · have e' : ¬ q.1 = k := fun z => e (h1.trans z)
      have b : atKey (q :: qs) k = atKey qs k := by simp [atKey, List.find?_cons, e']
      rw [valV_neg e, b]; exact ih
theorem KT.repl {H : Hp} {kvs : List (List Key × V)} {xs : List (List Key × Addr × Value)} (r : KT H kvs xs) (k : List Key) {y : V} {u : Value} (ry : RelV y u) :
    KT H (kvs.map fun kv => if kv.1 = k then (kv.1, y) else kv) (xs.map (putAt k u)) := by
  induction r with
  | nil => exact .nil
  | @cons p q ps qs h t ih =>
    rw [List.map_cons, List.map_cons]
    refine .cons ?_ ih
    obtain ⟨h1, h2, h3⟩ := h
    unfold putAt
    by_cases e : p.1 = k
    · rw [if_pos e, if_pos (h1.symm.trans e)]; exact ⟨h1, h2, ry⟩
    · rw [if_neg e, if_neg (fun z => e (h1.trans z))]; exact ⟨h1, h2, h3⟩
theorem KT.put {H : Hp} {kvs : List (List Key × V)} {xs : List (List Key × Addr × Value)} (r : KT H kvs xs) (k : List Key) {b : Addr} {y : V} {u : Value} (hb : H b = some (.tup (k.map kV))) (ry : RelV y u) :
    KT H (putK kvs k y) (storedH xs k b u) := by
  have e : (kvs.any fun kv => decide (kv.1 = k)) = (atKey xs k).isSome := by
    rw [valV_any, (r.val k).isSome_eq, Option.isSome_map]
  unfold putK storedH
  rw [e]
  by_cases q : (atKey xs k).isSome = true
  · rw [if_pos q, if_pos q]; exact r.repl k ry
  · rw [if_neg q, if_neg q]; exact Paired.snoc r ⟨rfl, hb, ry⟩
theorem KT.keeps {H H' : Hp} {kvs : List (List Key × V)} {xs : List (List Key × Addr × Value)} (r : KT H kvs xs) (ht : ∀ b ys, H b = some (.tup ys) → H' b = some (.tup ys)) : KT H' kvs xs :=
  Paired.mapP r fun _ _ z => ⟨z.1, ht _ _ z.2.1, z.2.2⟩

section
variable {P : Program} {w : World} {H : Hp} {h : Heap} {a : Addr}
theorem rd_of {u : HO} (ok : HOk P w H h) (e : Rd H a u) : ObjOk P w H h a u := e.ok ok
theorem dk_rd {kvs : List (Key × V)} (ok : HOk P w H h) (e : Rd H a (.dK kvs)) : kvs.length ≤ sizeLine ∧ (a == sysModules) = false ∧ ∃ vs, KV kvs vs ∧ h.DictOf (mixKind P w) a vs :=
  show ObjOk P w H h a (.dK kvs) from rd_of ok e
theorem dk_of {kvs : List (Key × V)} (ok : HOk P w H h) (e : H a = some (.dK kvs)) : kvs.length ≤ sizeLine ∧ (a == sysModules) = false ∧ ∃ vs, KV kvs vs ∧ h.DictOf (mixKind P w) a vs := dk_rd ok (.inl e)
/-- a tracked tuple of ints and texts is a key -/
theorem key_of {ks : List Key} (ok : HOk P w H h) (e : H a = some (.tup (ks.map kV))) : (tupleKind (mixKind P w)).is h ks a := by
  obtain ⟨_, its, r, o, h1, h2, n, h3⟩ := (show ObjOk P w H h a (.tup (ks.map kV)) from ok a _ e)
  exact ⟨o, its.toArray, n, h1, h2, h3, by simpa using items_are r⟩
theorem dt_rd {kvs : List (List Key × V)} (ok : HOk P w H h) (e : Rd H a (.dT kvs)) : kvs.length ≤ sizeLine ∧ (a == sysModules) = false ∧
    ∃ xs, KT H kvs xs ∧ h.DictOfH (tupleKind (mixKind P w)) a xs := by
  obtain ⟨z, y, xs, r, o, es, ep, h1, h2, h3, h4, h5⟩ := (show ObjOk P w H h a (.dT kvs) from rd_of ok e)
  refine ⟨z, y, xs, r, o, es, ep, h1, h2, h3, h4, fun x hx => ?_, h5⟩
  have all : ∀ {l : List (List Key × V)} {m : List (List Key × Addr × Value)}, KT H l m → ∀ x ∈ m, (tupleKind (mixKind P w)).is h x.1 x.2.1 := by
    intro l m q
    induction q with
    | nil => intro x hx; exact nomatch hx
    | @cons p q ps qs hq t ih =>
      intro x hx
      rcases List.mem_cons.mp hx with e | hx
      · subst e
        exact key_of ok (by rw [← hq.1]; exact hq.2.1)
      · exact ih x hx
  exact all r x hx
theorem dt_of {kvs : List (List Key × V)} (ok : HOk P w H h) (e : H a = some (.dT kvs)) : kvs.length ≤ sizeLine ∧ (a == sysModules) = false ∧
    ∃ xs, KT H kvs xs ∧ h.DictOfH (tupleKind (mixKind P w)) a xs := dt_rd ok (.inl e)
end
/-- what the dict at a holds at the key y -/
def DGet (H : Hp) (a : Addr) (y : V) (r : Option V) : Prop :=
  (∃ kvs k, Rd H a (.dK kvs) ∧ y = kV k ∧ r = valV kvs k) ∨ ∃ kvs k b, Rd H a (.dT kvs) ∧ y = .ref b ∧ H b = some (.tup (k.map kV)) ∧ r = valV kvs k
/-- the heap behind a[y] = v -/
def DPut (H : Hp) (a : Addr) (y v : V) (H' : Hp) : Prop :=
  (∃ kvs k, H a = some (.dK kvs) ∧ y = kV k ∧ kvs.length < sizeLine ∧ H' = upd H a (.dK (putK kvs k v))) ∨
  ∃ kvs k b, H a = some (.dT kvs) ∧ y = .ref b ∧ H b = some (.tup (k.map kV)) ∧ kvs.length < sizeLine ∧ H' = upd H a (.dT (putK kvs k v))
theorem DGet.k {H : Hp} {a : Addr} {kvs : List (Key × V)} {k : Key} (e : H a = some (.dK kvs)) : DGet H a (kV k) (valV kvs k) := .inl ⟨kvs, k, .inl e, rfl, rfl⟩
theorem DGet.t {H : Hp} {a b : Addr} {kvs : List (List Key × V)} {k : List Key} (e : H a = some (.dT kvs)) (eb : H b = some (.tup (k.map kV))) : DGet H a (.ref b) (valV kvs k) := .inr ⟨kvs, k, b, .inl e, rfl, eb, rfl⟩
theorem DPut.k {H : Hp} {a : Addr} {kvs : List (Key × V)} {k : Key} {v : V} (e : H a = some (.dK kvs)) (hl : kvs.length < sizeLine) : DPut H a (kV k) v (upd H a (.dK (putK kvs k v))) := .inl ⟨kvs, k, e, rfl, hl, rfl⟩
theorem DPut.t {H : Hp} {a b : Addr} {kvs : List (List Key × V)} {k : List Key} {v : V} (e : H a = some (.dT kvs)) (eb : H b = some (.tup (k.map kV))) (hl : kvs.length < sizeLine) :
    DPut H a (.ref b) v (upd H a (.dT (putK kvs k v))) := .inr ⟨kvs, k, b, e, rfl, eb, hl, rfl⟩


section
variable {X : Cx} {pins : List (Addr × Obj)} {σ : St} {H : Hp} {s : Shared} {a : Addr} {y v : V} {u r : Value} {o : Option V} {A : Around} {E : Value → Shared → Prop}
theorem Inv.big (I : Inv X pins σ H s) : sysModules < s.heap.objs.size := by
  have h : mainGlobals < s.heap.objs.size := (I.mod.glob.keeps I.bk).lt
  exact Nat.lt_trans (by decide) h

/-- d[y], there -/
theorem d_getItem {Q : Value → Shared → Prop} (hu : A.units + 1 < cLine) (I : Inv X pins σ H s) (g : DGet H a y (some v)) (ry : RelV y u) (h : ∀ w' s', Inv X pins σ H s' → RelV v w' → Q w' s') :
    wpAny (model X.prog X.w) A (getItem (.ref a) u) Q E s := by
  rcases g with ⟨kvs, k, e, ey, l⟩ | ⟨kvs, k, b, e, ey, eb, l⟩
  · subst ey
    obtain ⟨z, hd, vs, rel, dd⟩ := dk_rd I.hok e
    obtain ⟨w', hw, rw'⟩ := RelO.some_of (v := v) (o := valueAt vs k) (by rw [l]; exact rel.val k)
    exact wpAny_getItem_of (kV_is ry) dd.mapOf hw (h w' _ (I.tok _) rw')
  · subst ey
    cases (show u = Value.ref b from ry)
    obtain ⟨z, hd, xs, rel, dd⟩ := dt_rd I.hok e
    obtain ⟨w', hw, rw'⟩ := RelO.some_of (v := v) (o := (atKey xs k).map (·.2)) (by rw [l]; exact rel.val k)
    obtain ⟨p, hp, hp2⟩ := Option.map_eq_some_iff.mp hw
    refine wpAny_getItem_heap (tupleKind_room_in1 hu) (key_of I.hok eb) dd hp ?_
    rw [hp2]
    exact h w' _ (I.tok _) rw'
/-- y in d -/
theorem d_in {Q : Value → Shared → Prop} (hu : A.units + 1 < cLine) (I : Inv X pins σ H s) (g : DGet H a y o) (ry : RelV y u) (h : ∀ s', Inv X pins σ H s' → Q (.bool o.isSome) s') :
    wpAny (model X.prog X.w) A (compareOp .In u (.ref a)) Q E s := by
  rcases g with ⟨kvs, k, e, ey, l⟩ | ⟨kvs, k, b, e, ey, eb, l⟩
  · subst ey
    obtain ⟨z, hd, vs, rel, dd⟩ := dk_rd I.hok e
    refine wpAny_in_of (kV_is ry) hd dd.mapOf ?_
    rw [← (rel.val k).isSome_eq, ← l]
    exact h _ (I.tok _)
  · subst ey
    cases (show u = Value.ref b from ry)
    obtain ⟨z, hd, xs, rel, dd⟩ := dt_rd I.hok e
    refine wpAny_in_heap (tupleKind_room_in1 hu) (key_of I.hok eb) hd dd ?_
    have q := (rel.val k).isSome_eq
    rw [Option.isSome_map] at q
    rw [← q, ← l]
    exact h _ (I.tok _)
theorem d_notIn {Q : Value → Shared → Prop} (hu : A.units + 1 < cLine) (I : Inv X pins σ H s) (g : DGet H a y o) (ry : RelV y u) (h : ∀ s', Inv X pins σ H s' → Q (.bool (!o.isSome)) s') :
    wpAny (model X.prog X.w) A (compareOp .NotIn u (.ref a)) Q E s := by
  rcases g with ⟨kvs, k, e, ey, l⟩ | ⟨kvs, k, b, e, ey, eb, l⟩
  · subst ey
    obtain ⟨z, hd, vs, rel, dd⟩ := dk_rd I.hok e
    refine wpAny_notIn_of (kV_is ry) hd dd.mapOf ?_
    rw [← (rel.val k).isSome_eq, ← l]
    exact h _ (I.tok _)
  · subst ey
    cases (show u = Value.ref b from ry)
    obtain ⟨z, hd, xs, rel, dd⟩ := dt_rd I.hok e
    refine wpAny_notIn_heap (tupleKind_room_in1 hu) (key_of I.hok eb) hd dd ?_
    have q := (rel.val k).isSome_eq
    rw [Option.isSome_map] at q
    rw [← q, ← l]
    exact h _ (I.tok _)
/-- a dict's object is replaced -/
theorem d_write {h' : Heap} {t' : Nat} {ob : HO} (I : Inv X pins σ H s) (mu : Mut (H a)) (hs : Heap.SameBut a s.heap h') (he : ∃ q, h'.get? a = some q) (new : ObjOk X.prog X.w (upd H a ob) h' a ob) :
    Inv X pins σ (upd H a ob) { s with heap := h', toks := t' } :=
  I.write (x := a) (e := a) mu (.inl rfl) (fun b q hb z => (hs.2 b hb).trans z) he new
theorem dk_new {P : Program} {w : World} {H' : Hp} {h' : Heap} {kvs : List (Key × V)} {vs : List (Key × Value)} (z : kvs.length ≤ sizeLine) (hd : (a == sysModules) = false) (rel : KV kvs vs) (dd : h'.DictOf (mixKind P w) a vs) :
    ObjOk P w H' h' a (.dK kvs) := ⟨z, hd, vs, rel, dd⟩
/-- d[y] = v -/
theorem d_setItem {H' : Hp} {Q : Unit → Shared → Prop} (hu : A.units + 1 < cLine) (I : Inv X pins σ H s) (g : DPut H a y v H') (ry : RelV y u) (rv : RelV v r) (h : ∀ s', Inv X pins σ H' s' → Q () s') :
    wpAny (model X.prog X.w) A (setItem (.ref a) u r) Q E s := by
  rcases g with ⟨kvs, k, e, ey, l, eH⟩ | ⟨kvs, k, b, e, ey, eb, l, eH⟩
  · subst ey eH
    obtain ⟨z, hd, vs, rel, dd⟩ := dk_of I.hok e
    have hz : vs.length ≤ sizeLine := by rw [← rel.length]; exact z
    have hl : (putK kvs k v).length ≤ sizeLine := by have := length_putK kvs k v; omega
    refine wpAny_setItem_pairs (hsz := hz) (kV_is ry) dd fun h' dd' hs => h _ ?_
    have he : ∃ q, h'.get? a = some q := let ⟨q, _, _, hq, _⟩ := dd'; ⟨q, hq⟩
    exact d_write I (by rw [e]; exact True.intro) hs he (dk_new hl hd (rel.put k rv) dd')
  · subst ey eH
    cases (show u = Value.ref b from ry)
    obtain ⟨z, hd, xs, rel, dd⟩ := dt_of I.hok e
    have hz : xs.length ≤ sizeLine := by rw [← Paired.length rel]; exact z
    have hl : (putK kvs k v).length ≤ sizeLine := by have := length_putK kvs k v; omega
    refine wpAny_setItem_heap (hsz := hz) (tupleKind_room_in1 hu) (key_of I.hok eb) dd fun h' dd' hs => h _ ?_
    obtain ⟨q, es, ep, hq, h2, h3, h4, _, h5⟩ := dd'
    refine d_write I (by rw [e]; exact True.intro) hs ⟨q, hq⟩ ⟨hl, hd, _, (rel.put k eb rv).keeps fun c ys ec => ?_, q, es, ep, hq, h2, h3, h4, h5⟩
    rw [upd_ne (ne_of ec e (fun z => nomatch z))]
    exact ec
end
section
variable {X : Cx} {pins : List (Addr × Obj)} {σ : St} {H : Hp} {s : Shared} {a : Addr} {kvs : List (Key × V)} {k : Key} {u : Value} {A : Around} {E : Value → Shared → Prop}
end
theorem dict_typeIs {X : Cx} {pins : List (Addr × Obj)} {σ : St} {H : Hp} {s : Shared} {a : Addr} {y : V} {o : Option V} (I : Inv X pins σ H s) (g : DGet H a y o) : s.TypeIs (.ref a) "dict" := by
  rcases g with ⟨kvs, k, e, _, _⟩ | ⟨kvs, k, b, e, _, _, _⟩
  · obtain ⟨_, _, vs, _, dd⟩ := dk_rd I.hok e
    exact dd.typeIs
  · obtain ⟨_, _, xs, _, dd⟩ := dt_rd I.hok e
    exact dd.typeIs
section
variable {X : Cx} {o i e value : Expr} {pos pos' tpos : Pos} {td ty tv : TE}
end
section
variable {X : Cx} {pos : Pos}
end
section
variable {X : Cx} {pins : List (Addr × Obj)} {σ : St} {H : Hp} {s : Shared} {a : Addr} {y d : V} {u r : Value} {o : Option V} {A : Around} {E : Value → Shared → Prop}
end
section
variable {X : Cx} {o e f : Expr} {apos cpos : Pos} {td ty tx : TE}
end
section
variable {X : Cx} {pins : List (Addr × Obj)} {σ : St} {H : Hp} {s : Shared} {a : Addr} {kvs : List (Key × V)} {A : Around} {E : Value → Shared → Prop}
end
section
variable {X : Cx} {pins : List (Addr × Obj)} {σ : St} {H : Hp} {s : Shared} {a : Addr} {y : V} {u : Value} {A : Around} {E : Value → Shared → Prop}
end
end L2
namespace L2
open PySem PySem.Spec PyProof.Rows
section
variable {X : Cx}
end
section
variable {κ : Type} [DecidableEq κ]
end
end L2
end
section
set_option Elab.async false
set_option linter.all false
set_option maxRecDepth 100000
set_option autoImplicit false
namespace Ng
open PySem PySem.Spec PyProof.Rows L2
abbrev Sg := L2.St

inductive D where
  | non | bl (b : Bool) | int (i : Int) | str (x : Str) | ty (n : String) | tup (l : List D) | ref (n : Nat)
inductive O where
  | lst (l : List D) | ro (l : List D) | dct (l : List (Key × D)) | dtt (l : List (List Int × D)) | ded
abbrev Hh := List O
abbrev Ev := List (Option D)
/-- a value and the objects behind it; or an exception: its class, the frame's names where it rose; or nothing is said -/
inductive Rs (A : Type) where
  | ok (a : A) (h : Hh) | exc (c : Nat) (r : Ev) (h : Hh) | bad
def Rs.bind {A B : Type} : Rs A → (A → Hh → Rs B) → Rs B
  | .ok a h, f => f a h
  | .exc c r h, _ => .exc c r h
  | .bad, _ => .bad
theorem Rs.bind_ok {A B : Type} {r : Rs A} {f : A → Hh → Rs B} {b : B} {h' : Hh} (e : r.bind f = .ok b h') : ∃ a h, r = .ok a h ∧ f a h = .ok b h' := by
  cases r with
  | ok a h => exact ⟨a, h, rfl, e⟩
  | exc c r h => cases e
  | bad => cases e
/-- no exception may come -/
def Rs.nx {A : Type} : Rs A → Rs A
  | .ok a h => .ok a h
  | _ => .bad
theorem Rs.nx_ok {A : Type} {r : Rs A} {a : A} {h : Hh} (e : r.nx = .ok a h) : r = .ok a h := by
  cases r with
  | ok b h' => exact e
  | exc c r h' => cases e
  | bad => cases e
/-- an exception that rises in a frame with these names -/
def Rs.inn {A : Type} (r : Ev) : Rs A → Rs A
  | .exc c _ h => .exc c r h
  | o => o

mutual
inductive RD (K : PySem.W.Frag) (m : List Addr) (H : Hp) : D → V → Prop where
  | non : RD K m H .non .non
  | bl (b : Bool) : RD K m H (.bl b) (.bl b)
  | int (i : Int) : RD K m H (.int i) (.int i)
  | str (x : Str) : RD K m H (.str x) (.str x)
  | ty (n : String) : RD K m H (.ty n) (.ty n)
  | tup {a : Addr} {ds : List D} {vs : List V} (h : SqT K H a vs) (r : RDs K m H ds vs) : RD K m H (.tup ds) (.ref a)
  | ref {n : Nat} {a : Addr} (h : m[n]? = some a) : RD K m H (.ref n) (.ref a)
inductive RDs (K : PySem.W.Frag) (m : List Addr) (H : Hp) : List D → List V → Prop where
  | nil : RDs K m H [] []
  | cons {d : D} {v : V} {ds : List D} {vs : List V} (h : RD K m H d v) (r : RDs K m H ds vs) : RDs K m H (d :: ds) (v :: vs)
end
structure Gr (K : PySem.W.Frag) (m : List Addr) (H : Hp) (m' : List Addr) (H' : Hp) : Prop where
  pre : ∀ (n : Nat) (a : Addr), m[n]? = some a → m'[n]? = some a
  tup : ∀ (a : Addr) (vs : List V), SqT K H a vs → SqT K H' a vs
  frz : ∀ (a : Addr) (o : Obj) (u : HO), H a = some (.frz o u) → H' a = some (.frz o u)
theorem Gr.refl {K : PySem.W.Frag} {m : List Addr} {H : Hp} : Gr K m H m H := ⟨fun _ _ e => e, fun _ _ e => e, fun _ _ _ e => e⟩
theorem Gr.trans {K : PySem.W.Frag} {m m1 m2 : List Addr} {H H1 H2 : Hp} (a : Gr K m H m1 H1) (b : Gr K m1 H1 m2 H2) : Gr K m H m2 H2 :=
  ⟨fun n x e => b.pre n x (a.pre n x e), fun n x e => b.tup n x (a.tup n x e), fun n x u e => b.frz n x u (a.frz n x u e)⟩
section
variable {K : PySem.W.Frag} {m m' : List Addr} {H H' : Hp}
mutual
theorem RD.mono (g : Gr K m H m' H') : ∀ {d : D} {v : V}, RD K m H d v → RD K m' H' d v
  | _, _, .non => .non
  | _, _, .bl b => .bl b
  | _, _, .int i => .int i
  | _, _, .str x => .str x
  | _, _, .ty n => .ty n
  | _, _, .tup h r => .tup (g.tup _ _ h) (RDs.mono g r)
  | _, _, .ref h => .ref (g.pre _ _ h)
theorem RDs.mono (g : Gr K m H m' H') : ∀ {ds : List D} {vs : List V}, RDs K m H ds vs → RDs K m' H' ds vs
  | _, _, .nil => .nil
  | _, _, .cons h r => .cons (RD.mono g h) (RDs.mono g r)
end
theorem RDs.length : ∀ {ds : List D} {vs : List V}, RDs K m H ds vs → ds.length = vs.length
  | _, _, .nil => rfl
  | _, _, .cons _ r => by simp [RDs.length r]
theorem RDs.get : ∀ {ds : List D} {vs : List V} {i : Nat} {d : D}, RDs K m H ds vs → ds[i]? = some d → ∃ v, vs[i]? = some v ∧ RD K m H d v
  | _, _, _, _, .nil, e => by simp at e
  | _, _, 0, _, .cons h _, e => by simp at e; subst e; exact ⟨_, rfl, h⟩
  | _, _, i + 1, d, .cons _ r, e => by
    obtain ⟨v, h1, h2⟩ := RDs.get (i := i) (d := d) r (by simpa using e)
    exact ⟨v, by simpa using h1, h2⟩
theorem RDs.getV : ∀ {ds : List D} {vs : List V} {i : Nat} {v : V}, RDs K m H ds vs → vs[i]? = some v → ∃ d, ds[i]? = some d ∧ RD K m H d v
  | _, _, _, _, .nil, e => by simp at e
  | _, _, 0, _, .cons h _, e => by simp at e; subst e; exact ⟨_, rfl, h⟩
  | _, _, i + 1, v, .cons _ r, e => by
    obtain ⟨d, h1, h2⟩ := RDs.getV (i := i) (v := v) r (by simpa using e)
    exact ⟨d, by simpa using h1, h2⟩
theorem RDs.append : ∀ {ds es : List D} {vs us : List V}, RDs K m H ds vs → RDs K m H es us → RDs K m H (ds ++ es) (vs ++ us)
  | _, _, _, _, .nil, s => s
  | _, _, _, _, .cons h r, s => .cons h (RDs.append r s)
theorem RDs.set {d : D} {v : V} (q : RD K m H d v) : ∀ {ds : List D} {vs : List V} (i : Nat), RDs K m H ds vs → RDs K m H (ds.set i d) (vs.set i v)
  | _, _, _, .nil => .nil
  | _, _, 0, .cons _ t => .cons q t
  | _, _, i + 1, .cons h t => .cons h (RDs.set q i t)
end
theorem RDs.ints {K : PySem.W.Frag} {m : List Addr} {H : Hp} : ∀ (ns : List Int), RDs K m H (ns.map D.int) (ns.map V.int)
  | [] => .nil
  | n :: ns => .cons (.int n) (RDs.ints ns)

/-- a list that is only read -/
def SqR (K : PySem.W.Frag) (H : Hp) (a : Addr) (xs : List V) : Prop :=
  (∃ o, H a = some (.frz o (.lst xs))) ∨
    ∃ (o : Obj) (its : Array Value) (n : Nat), K.lookup a = some o ∧ o.cls = .type "list" ∧ o.dict = none ∧ o.data = .seq its n ∧ its.size ≤ sizeLine ∧ Vals xs its.toList
theorem SqR.sq {K : PySem.W.Frag} {H : Hp} {a : Addr} {xs : List V} (h : SqR K H a xs) : SqL K H a xs := by
  rcases h with h | h
  · exact .inl (.inr h)
  · exact .inr h
/-- a dict whose keys are tuples of ints, by its entries -/
def Dtt (a : Addr) (xs : List (List Int × Addr × Value)) (h : Heap) : Prop :=
  (a == sysModules) = false ∧ xs.length ≤ 1000 ∧ ∃ (P : Program) (w : World) (o : Obj) (es : Array DictEntry) (ep : Nat), h.get? a = some o ∧ o.ExactDict ∧ o.data = .dict es ep ∧
    es.toList = xs.map (entryOfKey (tupleKind (intKind P w))) ∧ (xs.map (·.1)).Nodup
/-- an object -/
def RO (K : PySem.W.Frag) (m : List Addr) (H : Hp) (a : Addr) : O → Prop
  | .lst ds => ∃ vs, H a = some (.lst vs) ∧ RDs K m H ds vs
  | .ro ds => ∃ vs, SqR K H a vs ∧ RDs K m H ds vs
  | .dct ds => ∃ us : List (Key × V), H a = some (.dK us) ∧ ds.map (·.1) = us.map (·.1) ∧ RDs K m H (ds.map (·.2)) (us.map (·.2))
  | .dtt ds => ∃ (xs : List (List Int × Addr × Value)) (us : List V), H a = some (.ext (Dtt a xs)) ∧ ds.map (·.1) = xs.map (·.1) ∧ (∀ x ∈ xs, SqT K H x.2.1 (x.1.map V.int)) ∧ RDs K m H (ds.map (·.2)) us ∧ Vals us (xs.map (·.2.2))
  | .ded => True
def O.wr : O → Bool
  | .lst _ => true
  | .ro _ => false
  | .dct _ => true
  | .dtt _ => true
  | .ded => false
/-- what may be written -/
def wrO : HO → Bool
  | .lst _ => true
  | .dK _ => true
  | .ext _ => true
  | _ => false
structure Wd (K : PySem.W.Frag) (m : List Addr) (h : Hh) (H : Hp) : Prop where
  len : m.length = h.length
  nd : ∀ (i j : Nat) (a : Addr) (o u : O), m[i]? = some a → m[j]? = some a → h[i]? = some o → h[j]? = some u → o.wr = true → u.wr = true → i = j
  ob : ∀ (n : Nat) (o : O) (a : Addr), h[n]? = some o → m[n]? = some a → RO K m H a o
theorem Wd.at {K : PySem.W.Frag} {m : List Addr} {h : Hh} {H : Hp} (w : Wd K m h H) {n : Nat} {o : O} (e : h[n]? = some o) : ∃ a, m[n]? = some a ∧ RO K m H a o := by
  have hn : n < h.length := (List.getElem?_eq_some_iff.mp e).1
  have hm : n < m.length := by rw [w.len]; exact hn
  exact ⟨m[n], List.getElem?_eq_getElem hm, w.ob n o _ e (List.getElem?_eq_getElem hm)⟩

/-- the frame's names -/
def RSt (K : PySem.W.Frag) (m : List Addr) (H : Hp) (r : Ev) (s : Sg) : Prop := r.length = s.length ∧ ∀ (i : Nat) (d : D), r[i]? = some (some d) → ∃ v, s[i]? = some (some v) ∧ RD K m H d v
theorem RSt.mono {K : PySem.W.Frag} {m m' : List Addr} {H H' : Hp} {r : Ev} {s : Sg} (g : Gr K m H m' H') (h : RSt K m H r s) : RSt K m' H' r s :=
  ⟨h.1, fun i d e => let ⟨v, h1, h2⟩ := h.2 i d e; ⟨v, h1, h2.mono g⟩⟩
theorem RSt.set {K : PySem.W.Frag} {m : List Addr} {H : Hp} {r : Ev} {s : Sg} {d : D} {v : V} (h : RSt K m H r s) (i : Nat) (q : RD K m H d v) : RSt K m H (r.set i (some d)) (s.set i (some v)) := by
  refine ⟨by simp [h.1], fun j e he => ?_⟩
  by_cases hij : i = j
  · subst hij
    have hl : i < r.length := by
      have := (List.getElem?_eq_some_iff.mp he).1
      simpa using this
    rw [List.getElem?_set_self hl] at he
    have he' : d = e := by injection he with z; injection z
    subst he'
    exact ⟨v, List.getElem?_set_self (by rw [← h.1]; exact hl), q⟩
  · rw [List.getElem?_set_ne hij] at he
    obtain ⟨u, h1, h2⟩ := h.2 j e he
    exact ⟨u, by rw [List.getElem?_set_ne hij]; exact h1, h2⟩

theorem SqT.upd_new {K : PySem.W.Frag} {H : Hp} {p : Addr} {o : HO} (hp : H p = none) {a : Addr} {vs : List V} (h : SqT K H a vs) : SqT K (upd H p o) a vs := by
  rcases h with (h | ⟨ob, h⟩) | h
  · exact .inl (.inl (by rw [upd_ne (ne_of_none h hp)]; exact h))
  · exact .inl (.inr ⟨ob, by rw [upd_ne (ne_of_none h hp)]; exact h⟩)
  · exact .inr h
theorem SqL.upd_new {K : PySem.W.Frag} {H : Hp} {p : Addr} {o : HO} (hp : H p = none) {a : Addr} {vs : List V} (h : SqL K H a vs) : SqL K (upd H p o) a vs := by
  rcases h with (h | ⟨ob, h⟩) | h
  · exact .inl (.inl (by rw [upd_ne (ne_of_none h hp)]; exact h))
  · exact .inl (.inr ⟨ob, by rw [upd_ne (ne_of_none h hp)]; exact h⟩)
  · exact .inr h
theorem SqT.upd_w {K : PySem.W.Frag} {H : Hp} {p : Addr} {u o : HO} (hp : H p = some u) (hw : wrO u = true) {a : Addr} {vs : List V} (h : SqT K H a vs) : SqT K (upd H p o) a vs := by
  rcases h with (h | ⟨ob, h⟩) | h
  · exact .inl (.inl (by rw [upd_ne (ne_of h hp (fun z => by subst z; cases hw))]; exact h))
  · exact .inl (.inr ⟨ob, by rw [upd_ne (ne_of h hp (fun z => by subst z; cases hw))]; exact h⟩)
  · exact .inr h
theorem SqR.upd_new {K : PySem.W.Frag} {H : Hp} {p : Addr} {o : HO} (hp : H p = none) {a : Addr} {vs : List V} (h : SqR K H a vs) : SqR K (upd H p o) a vs := by
  rcases h with ⟨ob, h⟩ | h
  · exact .inl ⟨ob, by rw [upd_ne (ne_of_none h hp)]; exact h⟩
  · exact .inr h
theorem SqR.upd_w {K : PySem.W.Frag} {H : Hp} {p : Addr} {u o : HO} (hp : H p = some u) (hw : wrO u = true) {a : Addr} {vs : List V} (h : SqR K H a vs) : SqR K (upd H p o) a vs := by
  rcases h with ⟨ob, h⟩ | h
  · exact .inl ⟨ob, by rw [upd_ne (ne_of h hp (fun z => by subst z; cases hw))]; exact h⟩
  · exact .inr h
section
variable {K : PySem.W.Frag} {m : List Addr} {h : Hh} {H : Hp}
/-- a tuple is laid -/
theorem Gr.tupNew {p : Addr} {o : HO} (hp : H p = none) : Gr K m H m (upd H p o) := ⟨fun _ _ e => e, fun _ _ e => SqT.upd_new hp e, fun b o' u' e => by rw [upd_ne (ne_of_none e hp)]; exact e⟩
/-- what is written is tracked -/
theorem RO.some_of {a : Addr} {o : O} (r : RO K m H a o) (w : o.wr = true) : ∃ u, H a = some u ∧ wrO u = true := by
  cases o with
  | lst ds => obtain ⟨vs, h1, _⟩ := r; exact ⟨_, h1, rfl⟩
  | ro ds => cases w
  | dct ds => obtain ⟨vs, h1, _⟩ := r; exact ⟨_, h1, rfl⟩
  | dtt ds => obtain ⟨xs, us, h1, _⟩ := r; exact ⟨_, h1, rfl⟩
  | ded => cases w
theorem RO.keepNew {p a : Addr} {o : HO} {u : O} {m' : List Addr} (hp : H p = none) (g : Gr K m H m' (upd H p o)) (q : RO K m H a u) : RO K m' (upd H p o) a u := by
  cases u with
  | lst ds =>
    obtain ⟨vs, h1, h2⟩ := q
    exact ⟨vs, by rw [upd_ne (ne_of_none h1 hp)]; exact h1, h2.mono g⟩
  | ro ds =>
    obtain ⟨vs, h1, h2⟩ := q
    exact ⟨vs, SqR.upd_new hp h1, h2.mono g⟩
  | dct ds =>
    obtain ⟨vs, h1, h2, h3⟩ := q
    exact ⟨vs, by rw [upd_ne (ne_of_none h1 hp)]; exact h1, h2, h3.mono g⟩
  | dtt ds =>
    obtain ⟨xs, us, h1, h2, h3, h4, h5⟩ := q
    exact ⟨xs, us, by rw [upd_ne (ne_of_none h1 hp)]; exact h1, h2, fun x hx => g.tup _ _ (h3 x hx), h4.mono g, h5⟩
  | ded => trivial
/-- another object is written -/
theorem RO.keepSet {p a : Addr} {v o : HO} {u : O} {m' : List Addr} (hp : H p = some v) (hw : wrO v = true) (na : u.wr = true → a ≠ p) (g : Gr K m H m' (upd H p o)) (q : RO K m H a u) : RO K m' (upd H p o) a u := by
  cases u with
  | lst ds =>
    obtain ⟨vs, h1, h2⟩ := q
    exact ⟨vs, by rw [upd_ne (na rfl)]; exact h1, h2.mono g⟩
  | ro ds =>
    obtain ⟨vs, h1, h2⟩ := q
    exact ⟨vs, SqR.upd_w hp hw h1, h2.mono g⟩
  | dct ds =>
    obtain ⟨vs, h1, h2, h3⟩ := q
    exact ⟨vs, by rw [upd_ne (na rfl)]; exact h1, h2, h3.mono g⟩
  | dtt ds =>
    obtain ⟨xs, us, h1, h2, h3, h4, h5⟩ := q
    exact ⟨xs, us, by rw [upd_ne (na rfl)]; exact h1, h2, fun x hx => g.tup _ _ (h3 x hx), h4.mono g, h5⟩
  | ded => trivial
theorem Wd.keepNew (w : Wd K m h H) {p : Addr} {o : HO} (hp : H p = none) : Wd K m h (upd H p o) :=
  ⟨w.len, w.nd, fun n ob a e1 e2 => (w.ob n ob a e1 e2).keepNew hp (Gr.tupNew hp)⟩
/-- an object is laid -/
theorem Wd.objNew (w : Wd K m h H) {p : Addr} {o : O} {u : HO} (hp : H p = none) (r : Gr K m H (m ++ [p]) (upd H p u) → RO K (m ++ [p]) (upd H p u) p o) : Wd K (m ++ [p]) (h ++ [o]) (upd H p u) ∧ Gr K m H (m ++ [p]) (upd H p u) := by
  have g : Gr K m H (m ++ [p]) (upd H p u) := ⟨fun n a e => by
    rw [List.getElem?_append_left (List.getElem?_eq_some_iff.mp e).1]; exact e, fun _ _ e => SqT.upd_new hp e, fun b o' u' e => by rw [upd_ne (ne_of_none e hp)]; exact e⟩
  have cs : ∀ (i : Nat) (a : Addr) (o' : O), (m ++ [p])[i]? = some a → (h ++ [o])[i]? = some o' → (i < h.length ∧ m[i]? = some a ∧ h[i]? = some o') ∨ (i = h.length ∧ a = p ∧ o' = o) := by
    intro i a o' e1 e2
    by_cases hi : i < h.length
    · rw [List.getElem?_append_left (by rw [w.len]; exact hi)] at e1
      rw [List.getElem?_append_left hi] at e2
      exact .inl ⟨hi, e1, e2⟩
    · have hl := (List.getElem?_eq_some_iff.mp e2).1
      have e : i = h.length := by simp at hl; omega
      subst e
      rw [← w.len] at e1
      simp at e1 e2
      exact .inr ⟨rfl, e1.symm, e2.symm⟩
  have fr : ∀ (i : Nat) (o : O), m[i]? = some p → h[i]? = some o → o.wr = true → False := fun i o e1 e2 hw => by
    obtain ⟨u, hu, _⟩ := (w.ob i o p e2 e1).some_of hw
    rw [hp] at hu; cases hu
  refine ⟨⟨by simp [w.len], fun i j a o1 o2 e1 e2 e3 e4 w1 w2 => ?_, fun n o' a e1 e2 => ?_⟩, g⟩
  · rcases cs i a o1 e1 e3 with ⟨_, x1, x2⟩ | ⟨z1, z2, z3⟩
    · rcases cs j a o2 e2 e4 with ⟨_, y1, y2⟩ | ⟨y1, y2, y3⟩
      · exact w.nd i j a o1 o2 x1 y1 x2 y2 w1 w2
      · subst y2; exact (fr i o1 x1 x2 w1).elim
    · rcases cs j a o2 e2 e4 with ⟨_, y1, y2⟩ | ⟨y1, y2, y3⟩
      · subst z2; exact (fr j o2 y1 y2 w2).elim
      · rw [z1, y1]
  · rcases cs n a o' e2 e1 with ⟨_, x1, x2⟩ | ⟨z1, z2, z3⟩
    · exact (w.ob n o' a x2 x1).keepNew hp g
    · subst z2; subst z3
      exact r g
/-- an object is written -/
theorem Wd.objSet (w : Wd K m h H) {n : Nat} {a : Addr} {o o' : O} {u : HO} (e1 : h[n]? = some o) (hw : o.wr = true) (e2 : m[n]? = some a) (r : Gr K m H m (upd H a u) → RO K m (upd H a u) a o') :
    Wd K m (h.set n o') (upd H a u) ∧ Gr K m H m (upd H a u) := by
  obtain ⟨v, ha, hv⟩ := (w.ob n o a e1 e2).some_of hw
  have g : Gr K m H m (upd H a u) := ⟨fun _ _ e => e, fun _ _ e => SqT.upd_w ha hv e, fun b o' u' e => by rw [upd_ne (ne_of e ha (fun z => by subst z; cases hv))]; exact e⟩
  have hn : n < h.length := (List.getElem?_eq_some_iff.mp e1).1
  have cs : ∀ (i : Nat) (o1 : O), (h.set n o')[i]? = some o1 → (i = n ∧ o1 = o') ∨ (i ≠ n ∧ h[i]? = some o1) := by
    intro i o1 e
    by_cases hi : n = i
    · subst hi
      rw [List.getElem?_set_self hn] at e
      exact .inl ⟨rfl, (Option.some.inj e).symm⟩
    · rw [List.getElem?_set_ne hi] at e
      exact .inr ⟨fun z => hi z.symm, e⟩
  refine ⟨⟨by simp [w.len], fun i j b o1 o2 x1 x2 x3 x4 w1 w2 => ?_, fun i o1 b x1 x2 => ?_⟩, g⟩
  · rcases cs i o1 x3 with ⟨z, _⟩ | ⟨ni, y3⟩
    · subst z
      rcases cs j o2 x4 with ⟨z, _⟩ | ⟨nj, y4⟩
      · exact z.symm
      · exact w.nd i j b o o2 x1 x2 e1 y4 hw w2
    · rcases cs j o2 x4 with ⟨z, _⟩ | ⟨nj, y4⟩
      · subst z
        exact w.nd i j b o1 o x1 x2 y3 e1 w1 hw
      · exact w.nd i j b o1 o2 x1 x2 y3 y4 w1 w2
  · rcases cs i o1 x1 with ⟨z1, z2⟩ | ⟨ni, y⟩
    · subst z1; subst z2
      rw [e2] at x2; cases x2
      exact r g
    · refine (w.ob i o1 b y x2).keepSet ha hv (fun hw1 z => ?_) g
      subst z
      exact ni (w.nd i n b _ _ x2 e2 y e1 hw1 hw)
/-- a list is laid -/
theorem Wd.lstNew (w : Wd K m h H) {p : Addr} {ds : List D} {vs : List V} (hp : H p = none) (r : RDs K m H ds vs) : Wd K (m ++ [p]) (h ++ [.lst ds]) (upd H p (.lst vs)) ∧ Gr K m H (m ++ [p]) (upd H p (.lst vs)) :=
  w.objNew hp fun g => ⟨vs, upd_same, r.mono g⟩
/-- a list is written -/
theorem Wd.lstSet (w : Wd K m h H) {n : Nat} {a : Addr} {ds es : List D} {us : List V} (e1 : h[n]? = some (.lst ds)) (e2 : m[n]? = some a) (r : RDs K m H es us) :
    (∃ vs, H a = some (.lst vs) ∧ RDs K m H ds vs) ∧ Wd K m (h.set n (.lst es)) (upd H a (.lst us)) ∧ Gr K m H m (upd H a (.lst us)) :=
  ⟨w.ob n _ a e1 e2, w.objSet e1 rfl e2 fun g => ⟨us, upd_same, r.mono g⟩⟩
/-- a list that is read -/
def lstOf : O → Option (List D)
  | .lst l => some l
  | .ro l => some l
  | .dct _ => none
  | .dtt _ => none
  | .ded => none
def lstAt (h : Hh) (n : Nat) : Option (List D) := (h[n]?).bind lstOf
theorem Wd.lst (w : Wd K m h H) {n : Nat} {ds : List D} (e : lstAt h n = some ds) : ∃ a vs, m[n]? = some a ∧ SqL K H a vs ∧ RDs K m H ds vs := by
  unfold lstAt at e
  cases q : h[n]? with
  | none => rw [q] at e; cases e
  | some o =>
    rw [q] at e
    obtain ⟨a, e1, r⟩ := w.at q
    cases o with
    | lst l =>
      obtain rfl : l = ds := Option.some.inj e
      obtain ⟨vs, h1, h2⟩ := r
      exact ⟨a, vs, e1, .of h1, h2⟩
    | ro l =>
      obtain rfl : l = ds := Option.some.inj e
      obtain ⟨vs, h1, h2⟩ := r
      exact ⟨a, vs, e1, h1.sq, h2⟩
    | dct l => cases e
    | dtt l => cases e
    | ded => cases e
end
end Ng
end
section
set_option Elab.async false
set_option linter.all false
set_option maxRecDepth 100000
set_option maxHeartbeats 4000000
set_option autoImplicit false
namespace Ng
open PySem PySem.Spec PyProof.Rows L2
abbrev nev : Value → Shared → Prop := fun _ _ => False
theorem hokHide {P : Program} {w : World} {H : Hp} {h : Heap} {fs : List Addr} (x : HOk P w H h) (nf : ∀ b ∈ fs, H b = none) : HOk P w H (PySem.W.hideAll h fs) := fun a o e =>
  (x a o e).stay (fun b u hb q => PySem.W.hideAll_get _ q fun hm => by
    rcases hb with rfl | hb
    · rw [nf _ hm] at e; cases e
    · rw [nf _ hm] at hb; cases hb) (fun _ q => q) fun _ _ q => q
/-- an exception (at e, of the class at C) in flight over the frames l; s, Hs: what stood at the entry -/
structure Fly (P : Program) (w : World) (l : List Env) (H : Hp) (s : Heap) (Hs : Hp) (e C : Addr) (h B : Heap) : Prop where
  fl : ∃ t, Heap.FlyingW B l e (.ref C) (.ref t) h
  hok : HOk P w H B
  kb : ∀ b o, s.get? b = some o → Hs b = none → b ∉ frs l → B.get? b = some o
  kt : ∀ b o, s.get? b = some o → b ∉ frs l → ∃ o', B.get? b = some o'
def CX1 (P : Program) (w : World) : CXT := fun outer Hs s E e s' => ∃ H' B ea C, e = .ref ea ∧ s'.os = s.os ∧ AllBare s'.gens ∧ Un (frs outer) [] Hs H' s.heap s'.heap ∧ Fly P w outer H' s.heap Hs ea C s'.heap B ∧ E e (some C) H'
theorem pass1 {X : Cx} : Passes (CX1 X.prog X.w) X E0 := fun _ _ _ _ _ _ _ ⟨_, _, _, _, _, _, _, _, _, z⟩ => z.elim
theorem un_fly {fs : List Addr} {H H' : Hp} {h h1 h2 B : Heap} (u : Un fs [] H H' h h1) (kb : ∀ b o, h.get? b = some o → H b = none → b ∉ fs → B.get? b = some o) (kt : ∀ b o, h.get? b = some o → b ∉ fs → ∃ o', B.get? b = some o')
    (st : B.StaysIn h2) (up : h1.UpToSlots h2) (fr : ∀ b ∈ fs, ∀ o, h1.get? b = some o → ∀ vs, o.data ≠ .fields vs) : Un fs [] H H' h h2 where
  keep := fun b o e n hb _ => st b o (kb b o e n hb)
  slot := fun b o e n hb hx => by
    obtain ⟨sl, e1⟩ := u.slot b o e n hb hx
    obtain ⟨sl', e2⟩ := up b _ e1 (fr b hb _ e1)
    exact ⟨sl', e2⟩
  free := u.free
  there := fun b o e hx => by
    by_cases hb : b ∈ fs
    · obtain ⟨o1, e1⟩ := u.there b o e hx
      obtain ⟨sl, e2⟩ := up b o1 e1 (fr b hb _ e1)
      exact ⟨_, e2⟩
    · obtain ⟨o', e'⟩ := kt b o e hb
      exact ⟨o', st b o' e'⟩
  tups := u.tups
  frzs := u.frzs
  tbls := u.tbls
/-- in flight, come to the frame of X: the frame's own things stand in B, too -/
structure FlyX (X : Cx) (pins : List (Addr × Obj)) (H : Hp) (e C : Addr) (s : Shared) (B : Heap) : Prop where
  fly : Fly X.prog X.w X.stack H X.s₀.heap X.H₀ e C s.heap B
  pc1 : ∀ p ∈ X.pn ++ pins, B.get? p.1 = some p.2
  pc2 : ∀ x c, X.env.cells.lookup x = some c → ∃ o, s.heap.get? c = some o ∧ B.get? c = some o
section
variable {X : Cx} {pins : List (Addr × Obj)} {σ : Sg} {H : Hp} {s : Shared}
/-- the frames' own objects are no records -/
theorem frames_data (I : Inv X pins σ H s) : ∀ b ∈ frs X.stack, ∀ o, s.heap.get? b = some o → ∀ vs, o.data ≠ .fields vs := fun b hb o e vs q => by
  obtain ⟨_, o', e', nf⟩ := I.stack.mem hb
  rw [e] at e'; cases e'
  exact nf vs q
theorem old_not (I : Inv X pins σ H s) {b : Addr} {o : Obj} (e : X.s₀.heap.get? b = some o) (hb : b ∉ frs X.outer) : b ∉ frs X.stack := fun hm => by
  rcases List.mem_cons.mp (I.stkSub b hm) with z | z
  · exact absurd (Heap.lt_size e) (by rw [z]; exact Nat.not_lt.mpr I.ok.above)
  · exact hb z
/-- a flight's step leaves the frame as it is -/
theorem flight {e C : Addr} {B h' : Heap} (I : Inv X pins σ H s) (F : FlyX X pins H e C s B) (hx : X.ex = []) (st : B.StaysIn h') (up : s.heap.UpToSlots h') : Inv X pins σ H { s with heap := h' } := by
  have base : Un X.fs [] X.H₀ H X.s₀.heap s.heap := by have := I.base; rw [hx] at this; exact this
  have sub : ∀ b ∈ X.fs, b ∈ frs X.stack := fun b hm => by
    rcases I.ok.stk with z | z
    · rw [z]; exact hm
    · rw [z.1]
      obtain ⟨env, he, hf⟩ := List.mem_filterMap.mp (show b ∈ X.outer.filterMap (·.frame) from hm)
      exact List.mem_filterMap.mpr ⟨env, List.mem_cons_of_mem _ he, hf⟩
  have cell : ∀ x c v, X.env.cells.lookup x = some c → s.heap.IsCell c v → Heap.IsCell h' c v := fun x c v hc ⟨o, e1, d⟩ => by
    obtain ⟨o', e2, e3⟩ := F.pc2 x c hc
    rw [e1] at e2; cases e2
    exact ⟨o, st _ _ e3, d⟩
  refine ⟨I.ok, I.os, I.bare, ?_, ?_, fun x c hc => ?_, I.free, I.freeC, fun p hp => ?_, F.fly.hok.kept st, I.len⟩
  · rw [hx]
    exact un_fly base (fun b o e1 n hb => F.fly.kb b o e1 n (old_not I e1 hb)) (fun b o e1 hb => F.fly.kt b o e1 (old_not I e1 hb)) st up fun b hb o e1 => frames_data I b (sub b hb) o e1
  · obtain ⟨m, hn, hl⟩ := I.loc
    refine ⟨m, up.ns hn, fun i x v e1 e2 e3 => ?_⟩
    obtain ⟨u, ru, L⟩ := hl i x v e1 e2 e3
    refine ⟨u, ru, ?_⟩
    rcases L with L | ⟨k, c, hc, ic⟩
    · exact .inl L
    · exact .inr ⟨k, c, hc, cell x c _ hc ic⟩
  · obtain ⟨v, ic⟩ := I.cell x c hc
    exact ⟨v, cell x c v hc ic⟩
  · exact ⟨st _ _ (F.pc1 p hp), (I.pin p hp).2⟩
theorem FlyX.step {e C : Addr} {B h' : Heap} (F : FlyX X pins H e C s B) (fl : ∃ t, Heap.FlyingW B X.stack e (.ref C) (.ref t) h') : FlyX X pins H e C { s with heap := h' } B :=
  ⟨⟨fl, F.fly.hok, F.fly.kb, F.fly.kt⟩, F.pc1, fun x c hc => by
    obtain ⟨o, _, e2⟩ := F.pc2 x c hc
    obtain ⟨t, fl⟩ := fl
    exact ⟨o, fl.1 _ _ e2, e2⟩⟩
end
theorem objOk_some {P : Program} {w : World} {H : Hp} {h : Heap} {a : Addr} : ∀ {o : HO}, ObjOk P w H h a o → ∃ u, h.get? a = some u := by
  intro o x
  cases o with
  | lst xs => obtain ⟨_, _, _, _, e⟩ := x; exact ⟨_, e⟩
  | tup xs => obtain ⟨_, _, _, o, e, _⟩ := x; exact ⟨_, e⟩
  | dK kvs => obtain ⟨_, _, _, _, o, _, _, e, _⟩ := x; exact ⟨_, e⟩
  | dT kvs => obtain ⟨_, _, _, _, o, _, _, e, _⟩ := x; exact ⟨_, e⟩
  | set S n => obtain ⟨o, _, _, _, e, _⟩ := x; exact ⟨_, e⟩
  | ins C dx fs => obtain ⟨_, _, _, e, _⟩ := x; exact ⟨_, e⟩
  | own y => obtain ⟨_, e⟩ := x; exact ⟨_, e⟩
  | xd fs => obtain ⟨_, ⟨_, _, _, e, _⟩, _⟩ := x; exact ⟨_, e⟩
  | rng lo hi => obtain ⟨_, _, _, e⟩ := x; exact ⟨_, e⟩
  | frz ob u => obtain ⟨e, _⟩ := x; exact ⟨_, e⟩
  | tbl ps => exact ⟨_, x⟩
  | met f y => exact ⟨_, x⟩
  | ext φ => obtain ⟨_, ⟨_, e⟩, _⟩ := x; exact ⟨_, e⟩
/-- what the body's own wish of exceptions is -/
structure XX (X : Cx) (ca : Nat → Addr) (W : Nat → Sg → Hp → Prop) (rz : Bool) : Prop where
  ex : X.ex = []
  stk : X.stack = X.env :: X.outer ∧ X.env.frame = some X.env.locals
  fly : ∀ (pins : List (Addr × Obj)) (σ : Sg) (H : Hp) (s : Shared) (e : Addr) (c : Nat), Inv X pins σ H s → (∃ B, FlyX X pins H e (ca c) s B) → W c σ H → X.xe (.ref e) s
  made : rz = true → ∀ (pins : List (Addr × Obj)) (σ : Sg) (H : Hp) (s : Shared) (h' : Heap) (e : Addr) (c : Nat) (args : List Value), Inv X pins σ H s → Heap.MadeExcOf s.heap h' e (.ref (ca c)) args → W c σ H → X.xe (.ref e) { s with heap := h' }
section
variable {P : Program} {w : World} {K : PySem.W.Frag} {mg : Str → Option Value} {base : Heap} {N : List Str} {qual : Str} {scope : Scope} {f : Addr} {cd : Value} {A : Around} {outer : List Env} {s₀ : Shared} {H₀ : Hp} {E : XK} {ca : Nat → Addr}
theorem fnXX : XX (cxOf (CX1 P w) P w K mg base N qual scope f cd A outer s₀ H₀ E) ca (fun c _ H => ∀ v, E v (some (ca c)) H) true where
  ex := rfl
  stk := ⟨rfl, rfl⟩
  fly := fun pins σ H s e c I ⟨B, F⟩ hW => by
    have F := F.fly
    obtain ⟨t, fl⟩ := id F.fl
    refine wpAny_leaves_onW (L := s₀.heap.objs.size) I.ok.frames rfl fl fun h' fl' up => ?_
    refine ⟨H, B, e, ca c, rfl, I.os, I.bare, ?_, ⟨⟨t, fl'⟩, F.hok, fun b o e1 n hb => F.kb b o e1 n (old_not I e1 hb), fun b o e1 hb => F.kt b o e1 (old_not I e1 hb)⟩, hW _⟩
    exact un_fly (h1 := s.heap) I.base (fun b o e1 n hb => F.kb b o e1 n (old_not I e1 hb)) (fun b o e1 hb => F.kt b o e1 (old_not I e1 hb)) fl'.1 up fun b hb o e1 => frames_data I b (List.mem_cons_of_mem _ hb) o e1
  made := fun _ pins σ H s h1 e c args I hx hW => by
    have hin : ∀ env ∈ (cxOf (CX1 P w) P w K mg base N qual scope f cd A outer s₀ H₀ E).stack, ∀ b, env.frame = some b → b ∈ frs (cxOf (CX1 P w) P w K mg base N qual scope f cd A outer s₀ H₀ E).stack := fun env he b hb => List.mem_filterMap.mpr ⟨env, he, hb⟩
    refine wpAny_leaves_madeW (s := { s with heap := h1 }) (h := s.heap) (base := PySem.W.hideAll s.heap (frs (cxOf (CX1 P w) P w K mg base N qual scope f cd A outer s₀ H₀ E).stack)) (L := s₀.heap.objs.size) I.ok.frames rfl (fun b o q => PySem.W.of_hideAll _ q) (PySem.W.funFrames_hide I.stack hin) hx fun h' t fl' _ _ up => ?_
    have kb : ∀ b o, s₀.heap.get? b = some o → H₀ b = none → b ∉ frs outer → (PySem.W.hideAll s.heap (frs (cxOf (CX1 P w) P w K mg base N qual scope f cd A outer s₀ H₀ E).stack)).get? b = some o := fun b o e1 n hb =>
      PySem.W.hideAll_get _ (I.base.keep b o e1 n hb (by simp [cxOf])) (old_not I e1 hb)
    have kt : ∀ b o, s₀.heap.get? b = some o → b ∉ frs outer → ∃ o', (PySem.W.hideAll s.heap (frs (cxOf (CX1 P w) P w K mg base N qual scope f cd A outer s₀ H₀ E).stack)).get? b = some o' := fun b o e1 hb => by
      obtain ⟨o1, e2⟩ := I.base.there b o e1 (by simp [cxOf])
      exact ⟨o1, PySem.W.hideAll_get _ e2 (old_not I e1 hb)⟩
    refine ⟨H, _, e, ca c, rfl, I.os, I.bare, ?_, ⟨⟨t, fl'⟩, hokHide I.hok I.stkFree, kb, kt⟩, hW _⟩
    have u1 : Un (frs outer) [] H₀ H s₀.heap h1 := by
      refine ⟨fun b o e1 n hb hn => hx.keeps _ _ (I.base.keep b o e1 n hb hn), fun b o e1 n hb hn => ?_, I.base.free, fun b o e1 hn => ?_, I.base.tups, I.base.frzs, I.base.tbls⟩
      · obtain ⟨sl, q⟩ := I.base.slot b o e1 n hb hn
        exact ⟨sl, hx.keeps _ _ q⟩
      · obtain ⟨o1, q⟩ := I.base.there b o e1 hn
        exact ⟨o1, hx.keeps _ _ q⟩
    refine un_fly (h1 := h1) u1 kb kt fl'.1 up fun b hb o e1 => ?_
    obtain ⟨_, o', e', nf⟩ := I.stack.mem (List.mem_cons_of_mem _ hb)
    have e2 := hx.keeps _ _ e'
    rw [e1] at e2; cases e2
    exact nf
end
end Ng
end
section
set_option Elab.async false
set_option linter.all false
set_option maxRecDepth 100000
set_option maxHeartbeats 4000000
set_option autoImplicit false
namespace Ng
open PySem PySem.Spec PyProof.Rows L2
section
variable {X : Cx} {pins : List (Addr × Obj)} {σ : Sg} {H : Hp} {s : Shared} {e C : Addr} {B : Heap} {oe : Obj}
end
end Ng
end
section
set_option Elab.async false
set_option linter.all false
set_option maxRecDepth 100000
set_option maxHeartbeats 4000000
set_option autoImplicit false
namespace Ng
open PySem PySem.W PyProof.Rows
def KOk (n : Nat) (L : Nat → Nat → Bool) {α : Type} : KasT α → (α → Prop) → Prop
  | .ret a, Q => Q a
  | .ask i j k, Q => i < n ∧ j < n ∧ i ≠ j ∧ KOk n L (k (L i j)) Q
section
variable {n : Nat} {L : Nat → Nat → Bool} {α β : Type}
theorem KOk.mono : ∀ {t : KasT α} {Q Q' : α → Prop}, KOk n L t Q → (∀ a, Q a → Q' a) → KOk n L t Q'
  | .ret a, _, _, h, c => c a h
  | .ask i j k, _, _, h, c => ⟨h.1, h.2.1, h.2.2.1, KOk.mono (t := k (L i j)) h.2.2.2 c⟩
theorem KOk.bind {f : α → KasT β} {Q : β → Prop} : ∀ {t : KasT α}, KOk n L t (fun a => KOk n L (f a) Q) → KOk n L (t.bind f) Q
  | .ret a, h => h
  | .ask i j k, h => ⟨h.1, h.2.1, h.2.2.1, KOk.bind (t := k (L i j)) h.2.2.2⟩
theorem KOk.wp {cmp : Nat → Nat → (Bool → Shared → Prop) → Shared → Prop} {s : Shared} (hc : ∀ i j (C : Bool → Shared → Prop), i < n → j < n → i ≠ j → C (L i j) s → cmp i j C s) {R : α → Shared → Prop} : ∀ {t : KasT α} {Q : α → Prop}, KOk n L t Q → (∀ a, Q a → R a s) → t.kasWp cmp R s
  | .ret a, _, h, c => c a h
  | .ask i j k, _, h, c => hc i j _ h.1 h.2.1 h.2.2.1 (KOk.wp hc (t := k (L i j)) h.2.2.2 c)
end
abbrev gD (p : Array Nat) (i : Nat) : Nat := p.getD i 0
/-- unlike things in an order -/
structure SO (n : Nat) (L : Nat → Nat → Bool) : Prop where
  tot : ∀ i j, i < n → j < n → i ≠ j → L i j = true ∨ L j i = true
  tr : ∀ i j k, i < n → j < n → k < n → L i j = true → L j k = true → L i k = true
def PV (n : Nat) (p : Array Nat) : Prop := p.toList.Perm (List.range n)
def Sd (L : Nat → Nat → Bool) (p : Array Nat) (k : Nat) : Prop := ∀ i j, i < j → j < k → L (gD p i) (gD p j) = true
section
variable {n : Nat} {L : Nat → Nat → Bool} {p : Array Nat}
theorem PV.size (h : PV n p) : p.size = n := by
  have := h.length_eq
  simpa using this
theorem gD_eq {i : Nat} (h : i < p.size) : gD p i = p[i] := by simp [gD, Array.getD, h]
theorem PV.lt (h : PV n p) {i : Nat} (hi : i < n) : gD p i < n := by
  have hz := h.size
  rw [gD_eq (by omega)]
  have : p[i] ∈ p.toList := by simp
  exact List.mem_range.mp (h.mem_iff.mp this)
theorem PV.ne (h : PV n p) {i j : Nat} (hi : i < n) (hj : j < n) (hij : i ≠ j) : gD p i ≠ gD p j := by
  have hz := h.size
  have nd : p.toList.Nodup := h.nodup_iff.mpr List.nodup_range
  rw [gD_eq (by omega), gD_eq (by omega)]
  intro e
  rw [List.Nodup, List.pairwise_iff_getElem] at nd
  rcases Nat.lt_or_gt_of_ne hij with z | z
  · exact nd i j (by simpa using (by omega : i < p.size)) (by simpa using (by omega : j < p.size)) z (by simpa using e)
  · exact nd j i (by simpa using (by omega : j < p.size)) (by simpa using (by omega : i < p.size)) z (by simpa using e.symm)
theorem PV.perm {q : Array Nat} (h : PV n p) (e : q.Perm p) : PV n q := (Array.perm_iff_toList_perm.mp e).trans h
theorem so_le (so : SO n L) (h : PV n p) {i j : Nat} (hi : i < n) (hj : j < n) (hij : i ≠ j) (e : L (gD p j) (gD p i) = false) : L (gD p i) (gD p j) = true := by
  rcases so.tot _ _ (h.lt hi) (h.lt hj) (h.ne hi hj hij) with z | z
  · exact z
  · rw [e] at z; cases z
theorem Sd.snoc (so : SO n L) (h : PV n p) {k : Nat} (hk : k < n) (h1 : 1 ≤ k) (s : Sd L p k) (e : L (gD p (k - 1)) (gD p k) = true) : Sd L p (k + 1) := fun i j hij hj => by
  by_cases z : j < k
  · exact s i j hij z
  · have ej : j = k := by omega
    subst ej
    by_cases y : i = j - 1
    · subst y; exact e
    · exact so.tr _ _ _ (h.lt (by omega)) (h.lt (by omega)) (h.lt hk) (s i (j - 1) (by omega) (by omega)) e
theorem asc_ok (so : SO n L) (h : PV n p) : ∀ (f k : Nat), 1 ≤ k → k + f ≤ n → Sd L p k → KOk n L (kas_asc p f k) (fun m => k ≤ m ∧ m ≤ k + f ∧ Sd L p m ∧ (m < k + f → L (gD p m) (gD p (m - 1)) = true))
  | 0, k, h1, h2, s => ⟨Nat.le_refl _, Nat.le_refl _, s, fun z => absurd z (Nat.lt_irrefl _)⟩
  | f + 1, k, h1, h2, s => by
    refine ⟨h.lt (by omega), h.lt (by omega), h.ne (by omega) (by omega) (by omega), ?_⟩
    cases e : L (gD p k) (gD p (k - 1)) with
    | true => exact ⟨Nat.le_refl _, by omega, s, fun _ => e⟩
    | false =>
      refine KOk.mono (asc_ok so h f (k + 1) (by omega) (by omega) (s.snoc so h (by omega) h1 (so_le so h (by omega) (by omega) (by omega) e))) fun m ⟨a, b, c, d⟩ => ⟨by omega, by omega, c, fun z => d (by omega)⟩
def Ds (L : Nat → Nat → Bool) (p : Array Nat) (k : Nat) : Prop := ∀ i j, i < j → j < k → L (gD p j) (gD p i) = true
theorem Ds.snoc (so : SO n L) (h : PV n p) {k : Nat} (hk : k < n) (h1 : 1 ≤ k) (s : Ds L p k) (e : L (gD p k) (gD p (k - 1)) = true) : Ds L p (k + 1) := fun i j hij hj => by
  by_cases z : j < k
  · exact s i j hij z
  · have ej : j = k := by omega
    subst ej
    by_cases y : i = j - 1
    · subst y; exact e
    · exact so.tr _ _ _ (h.lt hk) (h.lt (by omega)) (h.lt (by omega)) e (s i (j - 1) (by omega) (by omega))
theorem desc_ok (so : SO n L) (h : PV n p) : ∀ (f k : Nat), 1 ≤ k → k + f ≤ n → Ds L p k → KOk n L (kas_desc f p k 0) (fun r => r.1 = p ∧ r.2.2 = 0 ∧ k ≤ r.2.1 ∧ r.2.1 ≤ k + f ∧ Ds L p r.2.1)
  | 0, k, h1, h2, s => ⟨rfl, rfl, Nat.le_refl _, Nat.le_refl _, s⟩
  | f + 1, k, h1, h2, s => by
    refine ⟨h.lt (by omega), h.lt (by omega), h.ne (by omega) (by omega) (by omega), ?_⟩
    cases e : L (gD p k) (gD p (k - 1)) with
    | true =>
      refine KOk.mono (desc_ok so h f (k + 1) (by omega) (by omega) (s.snoc so h (by omega) h1 e)) fun r ⟨a, b, c, d, x⟩ => ⟨a, b, by omega, by omega, x⟩
    | false =>
      have e' := so_le so h (i := k - 1) (j := k) (by omega) (by omega) (by omega) e
      refine ⟨h.lt (by omega), h.lt (by omega), h.ne (by omega) (by omega) (by omega), ?_⟩
      rw [show L (p.getD (k - 1) 0) (p.getD k 0) = true from e']
      exact ⟨rfl, rfl, Nat.le_refl _, Nat.le_add_right k (f + 1), s⟩
theorem rev_get {k : Nat} (hm : k ≤ p.size) (i : Nat) : gD (kas_rev p 0 k) i = if i < k then gD p (k - 1 - i) else gD p i := by
  have e := getElem?_mirror_all (i := 0) (j := k) hm i
  unfold kas_rev
  have g : ∀ (q : Array Nat) (i : Nat), gD q i = (q[i]?).getD 0 := fun q i => by simp [gD, Array.getD_eq_getD_getElem?]
  rw [g, e]
  by_cases hi : i < k
  · rw [if_pos ⟨Nat.zero_le _, hi⟩, if_pos hi, g, show 0 + k - 1 - i = k - 1 - i by omega]
  · rw [if_neg (fun z => hi z.2), if_neg hi, g]
theorem tail_ok (so : SO n L) (h : PV n p) {m : Nat} (h1 : 1 ≤ m) (hm : m ≤ n) (s : Ds L p m) : KOk n L (kas_tail3 m n p) (fun r => PV n r.2 ∧ m ≤ r.1 ∧ r.1 ≤ n ∧ Sd L r.2 r.1) := by
  have hz := h.size
  have hp : PV n (kas_rev p 0 m) := h.perm (mirror_perm _ _ _ _)
  have hs : Sd L (kas_rev p 0 m) m := fun i j hij hj => by
    rw [rev_get (by omega), rev_get (by omega), if_pos (by omega), if_pos hj]
    exact s (m - 1 - j) (m - 1 - i) (by omega) (by omega)
  unfold kas_tail3
  exact KOk.bind (KOk.mono (asc_ok so hp (n - m) m h1 (by omega) hs) fun r ⟨a, b, c, _⟩ => ⟨hp, a, by omega, c⟩)
theorem count_ok (so : SO n L) (h : PV n p) (h2 : 2 ≤ n) : KOk n L (kas_count n p) (fun r => PV n r.2 ∧ 1 ≤ r.1 ∧ r.1 ≤ n ∧ Sd L r.2 r.1) := by
  unfold kas_count
  refine KOk.bind (KOk.mono (asc_ok so h (n - 1) 1 (Nat.le_refl _) (by omega) fun i j a b => by omega) fun m ⟨a, b, c, d⟩ => ?_)
  by_cases e : m = n
  · subst e
    rw [if_pos (by simp)]
    exact ⟨h, a, Nat.le_refl _, c⟩
  · rw [if_neg (by simpa using e)]
    by_cases g : m > 1
    · rw [if_pos g]
      refine ⟨h.lt (by omega), h.lt (by omega), h.ne (by omega) (by omega) (by omega), ?_⟩
      have e2 : L (p.getD 0 0) (p.getD (m - 1) 0) = true := c 0 (m - 1) (by omega) (by omega)
      rw [e2]
      show KOk n L (if true = true then KasT.ret (m, p) else _) _
      rw [if_pos rfl]
      exact ⟨h, a, (by show m ≤ n; omega), c⟩
    · rw [if_neg g]
      have em : m = 1 := by omega
      subst em
      unfold kas_descPart
      have d' := d (by omega)
      refine KOk.bind (KOk.mono (desc_ok so h (n - (1 + 1)) (1 + 1) (by omega) (by omega) fun i j a b => ?_) fun r ⟨x1, x2, x3, x4, x5⟩ => ?_)
      · have : j = 1 := by omega
        have : i = 0 := by omega
        subst_vars
        exact d'
      · rw [x2, if_neg (by omega), x1]
        exact KOk.mono (tail_ok so h (by omega) (by omega) x5) fun r ⟨y1, y2, y3, y4⟩ => ⟨y1, by omega, y3, y4⟩
theorem place_ok (so : SO n L) (h : PV n p) {k : Nat} (hk : k < n) (s : Sd L p k) : ∀ (f l r : Nat), l ≤ r → r ≤ k → r - l ≤ f → (∀ i, i < l → L (gD p i) (gD p k) = true) → (∀ i, r ≤ i → i < k → L (gD p k) (gD p i) = true) →
    KOk n L (kas_place p k f l r) (fun m => m ≤ k ∧ (∀ i, i < m → L (gD p i) (gD p k) = true) ∧ ∀ i, m ≤ i → i < k → L (gD p k) (gD p i) = true)
  | 0, l, r, h1, h2, h3, a, b => by
    have : l = r := by omega
    subst this
    exact ⟨h2, a, b⟩
  | f + 1, l, r, h1, h2, h3, a, b => by
    unfold kas_place
    by_cases g : l ≥ r
    · rw [if_pos g]
      have : l = r := by omega
      subst this
      exact ⟨h2, a, b⟩
    · rw [if_neg g]
      have hm1 : l ≤ (l + r) / 2 := by omega
      have hm2 : (l + r) / 2 < r := by omega
      generalize (l + r) / 2 = m at hm1 hm2 ⊢
      have hmk : m < k := Nat.lt_of_lt_of_le hm2 h2
      have hmn := Nat.lt_trans hmk hk
      refine ⟨h.lt hk, h.lt hmn, h.ne hk hmn (Nat.ne_of_gt hmk), ?_⟩
      cases e : L (p.getD k 0) (p.getD m 0) with
      | true =>
        refine place_ok so h hk s f l m hm1 (Nat.le_of_lt hmk) (by omega) a fun i x y => ?_
        by_cases z : i = m
        · subst z; exact e
        · exact so.tr _ _ _ (h.lt hk) (h.lt hmn) (h.lt (Nat.lt_trans y hk)) e (s _ _ (Nat.lt_of_le_of_ne x (Ne.symm z)) y)
      | false =>
        have e' := so_le so h (i := m) (j := k) hmn hk (Nat.ne_of_lt hmk) e
        refine place_ok so h hk s f (m + 1) r hm2 h2 (by omega) (fun i x => ?_) b
        by_cases z : i = m
        · subst z; exact e'
        · have him : i < m := Nat.lt_of_le_of_ne (Nat.le_of_lt_succ x) z
          exact so.tr _ _ _ (h.lt (Nat.lt_trans him hmn)) (h.lt hmn) (h.lt hk) (s i _ him hmk) e'
theorem bub_get {k l : Nat} (hk : k < p.size) (hl : l ≤ k) (i : Nat) : gD (bubble p k (k - l)) i = if i = l then gD p k else if l < i ∧ i ≤ k then gD p (i - 1) else gD p i := by
  have e := getElem?_bubble hk (k - l) (by omega) i
  have g : ∀ (q : Array Nat) (i : Nat), gD q i = (q[i]?).getD 0 := fun q i => by simp [gD, Array.getD_eq_getD_getElem?]
  rw [show k - (k - l) = l by omega] at e
  rw [g, e]
  by_cases h1 : i = l
  · rw [if_pos h1, if_pos h1, g]
  · rw [if_neg h1, if_neg h1]
    by_cases h2 : l < i ∧ i ≤ k
    · rw [if_pos h2, if_pos h2, g]
    · rw [if_neg h2, if_neg h2, g]
end
theorem bin_ok {n : Nat} {L : Nat → Nat → Bool} (so : SO n L) : ∀ (f k : Nat) (p : Array Nat), k + f = n → PV n p → Sd L p k → KOk n L (kas_bin f p k) (fun q => PV n q ∧ Sd L q n)
  | 0, k, p, hk, h, s => ⟨h, by rw [← hk]; exact s⟩
  | f + 1, k, p, hk, h, s => by
    have hz := h.size
    unfold kas_bin
    refine KOk.bind (KOk.mono (place_ok so h (by omega) s k 0 k (by omega) (Nat.le_refl _) (by omega) (fun i z => by omega) fun i x y => by omega) fun l ⟨a, b, c⟩ => ?_)
    refine bin_ok so f (k + 1) _ (by omega) (h.perm (bubble_perm _ _ _)) fun i j hij hj => ?_
    rw [bub_get (by omega) a, bub_get (by omega) a]
    by_cases i1 : i = l
    · rw [if_pos i1, if_neg (by omega), if_pos (by omega)]
      exact c _ (by omega) (by omega)
    · rw [if_neg i1]
      by_cases j1 : j = l
      · rw [if_neg (by omega), if_pos j1]
        exact b _ (by omega)
      · rw [if_neg j1]
        by_cases i2 : l < i ∧ i ≤ k
        · rw [if_pos i2, if_pos (by omega)]
          exact s _ _ (by omega) (by omega)
        · rw [if_neg i2]
          by_cases j2 : l < j ∧ j ≤ k
          · rw [if_pos j2]
            exact s _ _ (by omega) (by omega)
          · rw [if_neg j2]
            exact s _ _ (by omega) (by omega)
theorem sort_ok {n : Nat} {L : Nat → Nat → Bool} (so : SO n L) (h2 : 2 ≤ n) : KOk n L (kas_sort n) (fun q => PV n q ∧ Sd L q n) := by
  have h0 : PV n (List.toArray (List.range n)) := by unfold PV; simp
  unfold kas_sort
  refine KOk.bind (KOk.mono (count_ok so h0 h2) fun r ⟨a, b, c, d⟩ => ?_)
  by_cases g : r.1 < n
  · rw [if_pos g, show max r.1 1 = r.1 by omega]
    exact bin_ok so _ _ _ (by omega) a d
  · rw [if_neg g]
    have : r.1 = n := by omega
    rw [this] at d
    exact ⟨a, d⟩
section
variable {δ : Type}
theorem chain_uniq {R : δ → δ → Prop} (as : ∀ x y, R x y → R y x → False) : ∀ {l1 l2 : List δ}, l1.Perm l2 → l1.Pairwise R → l2.Pairwise R → l1 = l2
  | [], l2, hp, _, _ => (List.nil_perm.mp hp).symm
  | x :: l1, [], hp, _, _ => absurd (List.perm_nil.mp hp) (by simp)
  | x :: l1, y :: l2, hp, h1, h2 => by
    have exy : x = y := by
      obtain ⟨a1, b1⟩ := List.pairwise_cons.mp h1
      obtain ⟨a2, b2⟩ := List.pairwise_cons.mp h2
      have hx : x ∈ y :: l2 := hp.mem_iff.mp List.mem_cons_self
      have hy : y ∈ x :: l1 := hp.mem_iff.mpr List.mem_cons_self
      rcases List.mem_cons.mp hx with z | z
      · exact z
      · rcases List.mem_cons.mp hy with w | w
        · exact w.symm
        · exact (as x y (a1 y w) (a2 x z)).elim
    subst exy
    rw [chain_uniq as (List.perm_cons x |>.mp hp) (List.pairwise_cons.mp h1).2 (List.pairwise_cons.mp h2).2]
/-- x stands ahead of y by a comparison that is told -/
def Bef (lt : δ → δ → Option Bool) (x y : δ) : Prop := lt x y = some true ∧ lt y x = some false
theorem Bef.asy {lt : δ → δ → Option Bool} {x y : δ} (a : Bef lt x y) (b : Bef lt y x) : False := by
  have := a.1; rw [b.2] at this; cases this
theorem chain_ix {lt : δ → δ → Option Bool} {l : List δ} (h : l.Pairwise (Bef lt)) {i j : Nat} (hi : i < l.length) (hj : j < l.length) (ne : i ≠ j) : (lt l[i] l[j] = some true → i < j) ∧ (i < j → Bef lt l[i] l[j]) := by
  rw [List.pairwise_iff_getElem] at h
  refine ⟨fun e => ?_, fun z => h i j hi hj z⟩
  rcases Nat.lt_trichotomy i j with z | z | z
  · exact z
  · exact absurd z ne
  · have := (h j i hj hi z).2
    rw [e] at this; cases this
theorem chain_nd {lt : δ → δ → Option Bool} {l : List δ} (h : l.Pairwise (Bef lt)) : l.Nodup := h.imp fun a z => by
  subst z
  have := a.1; rw [a.2] at this; cases this
/-- the places' order, where the things have a chain -/
theorem pos_of {l l' : List δ} (hp : l'.Perm l) {i : Nat} {x : δ} (e : l[i]? = some x) : ∃ k : Nat, l'[k]? = some x := by
  obtain ⟨k, hk, z⟩ := List.mem_iff_getElem.mp (hp.mem_iff.mpr (List.mem_of_getElem? e))
  exact ⟨k, by rw [List.getElem?_eq_getElem hk, z]⟩
theorem get_inj {l : List δ} (nd : l.Nodup) {i j : Nat} {x : δ} (a : l[i]? = some x) (b : l[j]? = some x) : i = j := by
  obtain ⟨hi, ei⟩ := List.getElem?_eq_some_iff.mp a
  obtain ⟨hj, ej⟩ := List.getElem?_eq_some_iff.mp b
  rw [List.Nodup, List.pairwise_iff_getElem] at nd
  rcases Nat.lt_trichotomy i j with z | z | z
  · exact (nd i j hi hj z (ei.trans ej.symm)).elim
  · exact z
  · exact (nd j i hj hi z (ej.trans ei.symm)).elim
theorem ch_lt {lt : δ → δ → Option Bool} {l : List δ} (h : l.Pairwise (Bef lt)) {a b : Nat} {x y : δ} (ha : l[a]? = some x) (hb : l[b]? = some y) (ne : a ≠ b) : (lt x y = some true ↔ a < b) ∧ (a < b → Bef lt x y) := by
  obtain ⟨hi, rfl⟩ := List.getElem?_eq_some_iff.mp ha
  obtain ⟨hj, rfl⟩ := List.getElem?_eq_some_iff.mp hb
  obtain ⟨p, q⟩ := chain_ix h hi hj ne
  exact ⟨⟨p, fun z => (q z).1⟩, q⟩
theorem so_of {lt : δ → δ → Option Bool} {l l' : List δ} (hp : l'.Perm l) (h : l'.Pairwise (Bef lt)) {L : Nat → Nat → Bool} (hne : ∀ i, L i i = false) (hL : ∀ (i j : Nat) (x y : δ), l[i]? = some x → l[j]? = some y → i ≠ j → (L i j = true ↔ lt x y = some true)) : SO l.length L := by
  have nd' := chain_nd h
  have nd : l.Nodup := hp.nodup_iff.mp nd'
  have g : ∀ i, i < l.length → ∃ x, l[i]? = some x := fun i hi => ⟨_, List.getElem?_eq_getElem hi⟩
  refine ⟨fun i j hi hj hij => ?_, fun i j k hi hj hk e1 e2 => ?_⟩
  · obtain ⟨x, ex⟩ := g i hi
    obtain ⟨y, ey⟩ := g j hj
    obtain ⟨a, ea⟩ := pos_of hp ex
    obtain ⟨b, eb⟩ := pos_of hp ey
    have nab : a ≠ b := fun z => by
      subst z; rw [ea] at eb; cases eb
      exact hij (get_inj nd ex ey)
    rcases Nat.lt_or_gt_of_ne nab with z | z
    · exact .inl ((hL i j x y ex ey hij).mpr ((ch_lt h ea eb nab).1.mpr z))
    · exact .inr ((hL j i y x ey ex (Ne.symm hij)).mpr ((ch_lt h eb ea (Ne.symm nab)).1.mpr z))
  · obtain ⟨x, ex⟩ := g i hi
    obtain ⟨y, ey⟩ := g j hj
    obtain ⟨z, ez⟩ := g k hk
    obtain ⟨a, ea⟩ := pos_of hp ex
    obtain ⟨b, eb⟩ := pos_of hp ey
    obtain ⟨c, ec⟩ := pos_of hp ez
    have nij : i ≠ j := fun q => by subst q; rw [hne] at e1; cases e1
    have njk : j ≠ k := fun q => by subst q; rw [hne] at e2; cases e2
    have nab : a ≠ b := fun q => by
      subst q; rw [ea] at eb; cases eb
      exact nij (get_inj nd ex ey)
    have nbc : b ≠ c := fun q => by
      subst q; rw [eb] at ec; cases ec
      exact njk (get_inj nd ey ez)
    have l1 := (ch_lt h ea eb nab).1.mp ((hL i j x y ex ey nij).mp e1)
    have l2 := (ch_lt h eb ec nbc).1.mp ((hL j k y z ey ez njk).mp e2)
    have nik : i ≠ k := fun q => by
      subst q; rw [ex] at ez; cases ez
      have := get_inj nd' ea ec
      omega
    exact (hL i k x z ex ez nik).mpr ((ch_lt h ea ec (by omega)).1.mpr (by omega))
theorem map_range (l : List δ) (d : δ) : (List.range l.length).map (fun i => l.getD i d) = l := by
  apply List.ext_getElem?
  intro i
  rw [List.getElem?_map]
  by_cases hi : i < l.length
  · rw [List.getElem?_range hi, List.getElem?_eq_getElem hi]
    simp [List.getD_eq_getElem?_getD, List.getElem?_eq_getElem hi]
  · rw [List.getElem?_eq_none (by simpa using hi), List.getElem?_eq_none (by simpa using hi)]; rfl
/-- what the sort hands back -/
theorem out_of {lt : δ → δ → Option Bool} {l l' : List δ} (hp : l'.Perm l) (h : l'.Pairwise (Bef lt)) {L : Nat → Nat → Bool} (hL : ∀ (i j : Nat) (x y : δ), l[i]? = some x → l[j]? = some y → i ≠ j → (L i j = true ↔ lt x y = some true)) {p : Array Nat} (hv : PV l.length p) (hs : Sd L p l.length) (d : δ) :
    p.toList.map (fun i => l.getD i d) = l' := by
  have nd' := chain_nd h
  have nd : l.Nodup := hp.nodup_iff.mp nd'
  refine chain_uniq (R := Bef lt) (fun _ _ => Bef.asy) (((hv.map _).trans (by rw [map_range])).trans hp.symm) ?_ h
  rw [List.pairwise_iff_getElem]
  intro a b ha hb hab
  rw [List.length_map, Array.length_toList] at ha hb
  have hz := hv.size
  have e : ∀ c (hc : c < p.size), (p.toList.map (fun i => l.getD i d))[c]'(by simpa using hc) = l.getD (gD p c) d := fun c hc => by
    rw [List.getElem_map, gD_eq hc]; rfl
  rw [e a ha, e b hb]
  have la := hv.lt (i := a) (by omega)
  have lb := hv.lt (i := b) (by omega)
  have nab := hv.ne (i := a) (j := b) (by omega) (by omega) (by omega)
  have g : ∀ i, i < l.length → l[i]? = some (l.getD i d) := fun i hi => by simp [List.getD_eq_getElem?_getD, List.getElem?_eq_getElem hi]
  have t := (hL _ _ _ _ (g _ la) (g _ lb) nab).mp (hs a b hab (by omega))
  obtain ⟨x, ex⟩ := pos_of hp (g _ la)
  obtain ⟨y, ey⟩ := pos_of hp (g _ lb)
  have nxy : x ≠ y := fun q => by
    subst q; rw [ex] at ey
    have e2 := Option.some.inj ey
    exact nab (get_inj nd (g _ la) (by rw [e2]; exact g _ lb))
  exact (ch_lt h ex ey nxy).2 ((ch_lt h ex ey nxy).1.mp t)
end
end Ng
end
section
set_option Elab.async false
set_option linter.all false
set_option maxRecDepth 100000
set_option autoImplicit false
namespace Ng
open PySem PySem.Spec PyProof.Rows L2
inductive Bop where
  | add | sub | mul | fdiv | mod | pow
inductive Cop where
  | lt | le | gt | ge | eq | ne | is | isnot | inn | notin
inductive Ty where
  | int | bool | str | tuple | list
def Ty.nm : Ty → String
  | .int => "int" | .bool => "bool" | .str => "str" | .tuple => "tuple" | .list => "list"
inductive Blt where
  | len | isinst | int | list | max | min | sorted
inductive Tg where
  | nm (i : Nat) | tp (l : List Nat)
inductive Ck where
  | r1 | r2 | sq | its
def setAll : List Nat → List D → Ev → Ev
  | i :: is, d :: ds, r => setAll is ds (r.set i (some d))
  | _, _, r => r
def setT : Tg → D → Ev → Option Ev
  | .nm i, d, r => some (r.set i (some d))
  | .tp l, .tup ds, r => if ds.length = l.length then some (setAll l ds r) else none
  | _, _, _ => none
def rngD (i j : Int) : List D := (List.range (j - i).toNat).map fun (k : Nat) => D.int (i + k)
def okR (j : Int) : Prop := -(2 ^ 62) ≤ j ∧ j < 2 ^ 62
instance (j : Int) : Decidable (okR j) := by unfold okR; infer_instance
mutual
inductive E where
  | var (i : Nat) | int (i : Int) | bl (b : Bool) | non | str (x : Str) | gc (g : Nat) | ty (t : Ty)
  | bin (op : Bop) (a b : E) | neg (a : E) | cmp (op : Cop) (a b : E)
  | and (a b : E) | or (a b : E) | not (a : E) | ite (c a b : E)
  | ix (a b : E) | tup (l : Es) | lst (l : Es) | call (f : Nat) (l : Es) | blt (f : Blt) (l : Es) | app (o e : E)
  | comp (t : Tg) (k : Ck) (it cs : Es) (e : E) (N : List Str) (cap : List Nat)
  | mxd (mx : Bool) (l d : E) | lrg (e : E) | disp (ks : List Str) (vs : Es) | ins (o i e : E)
  | slU (a b : E) | slL (a b : E) | dnw | dnt | get2 (o k d : E) | join (x : Str) (e : E) | dcomp (t1 : Tg) (i1 : E) (t2 : Tg) (i2 k v : E) (N : List Str) (cap : List Nat)
inductive Es where
  | nil | cons (e : E) (r : Es)
end
def truD : D → Hh → Option Bool
  | .non, _ => some false
  | .bl b, _ => some b
  | .int i, _ => some (i != 0)
  | .str y, _ => if y.length ≤ sizeLine then some ((y.length : Int) != 0) else none
  | .tup l, _ => some (!l.isEmpty)
  | .ref n, h => match lstAt h n with
    | some l => some (!l.isEmpty)
    | none => none
  | .ty _, _ => none
def binD : Bop → D → D → Hh → Rs D
  | .add, .int i, .int j, h => .ok (.int (i + j)) h
  | .add, .str x, .str y, h => if x.length + y.length ≤ sizeLine then .ok (.str (x ++ y)) h else .bad
  | .add, .tup a, .tup b, h => if a.length + b.length ≤ 1000 ∧ 0 < a.length ∧ 0 < b.length then .ok (.tup (a ++ b)) h else .bad
  | .add, .ref n, .ref k, h => match h[n]?, h[k]? with
    | some (.lst a), some (.lst b) => if a.length + b.length ≤ 1000 then .ok (.ref h.length) (h ++ [.lst (a ++ b)]) else .bad
    | _, _ => .bad
  | .sub, .int i, .int j, h => .ok (.int (i - j)) h
  | .mul, .int i, .int j, h => if (-(2 ^ 64) < i ∧ i < 2 ^ 64) ∨ (-(2 ^ 64) < j ∧ j < 2 ^ 64) then .ok (.int (i * j)) h else .bad
  | .fdiv, .int i, .int j, h => if 0 < j ∧ j < 1073741824 then .ok (.int (i / j)) h else .bad
  | .mod, .int i, .int j, h => if 0 < j then .ok (.int (i % j)) h else .bad
  | .pow, .int i, .int j, h => if 0 ≤ j ∧ j ≤ 1000000 ∧ i.natAbs < 2 ^ 64 then .ok (.int (i ^ j.toNat)) h else .bad
  | _, _, _, _ => .bad
def eqL (f : D → D → Option Bool) : List D → List D → Option Bool
  | [], [] => some true
  | [], _ :: _ => some false
  | _ :: _, [] => some false
  | x :: xs, y :: ys => match f x y, eqL f xs ys with
    | some a, some b => some (a && b)
    | _, _ => none
def eqD : Nat → D → D → Option Bool
  | _, .non, .non => some true
  | _, .non, .int _ => some false
  | _, .int _, .non => some false
  | _, .non, .str _ => some false
  | _, .str _, .non => some false
  | _, .int a, .int b => some (a == b)
  | _, .bl a, .bl b => some (a == b)
  | _, .str a, .str b => some (a == b)
  | _, .int _, .str _ => some false
  | _, .str _, .int _ => some false
  | n + 1, .tup a, .tup b => eqL (eqD n) a b
  | _, _, _ => none
def eqH : D → D → Hh → Option Bool
  | .ref i, .ref j, h => match lstAt h i, lstAt h j with
    | some a, some b => if a.length = b.length then eqL (eqD 20) a b else some false
    | _, _ => none
  | x, y, _ => eqD 20 x y
def isNon : D → Bool
  | .non => true
  | _ => false
def flat : D → Bool
  | .non => true | .bl _ => true | .int _ => true | .str _ => true
  | _ => false
def eqF : D → D → Bool
  | .non, .non => true
  | .bl a, .bl b => a == b
  | .bl a, .int b => (if a then 1 else 0) == b
  | .int a, .bl b => a == (if b then 1 else 0)
  | .int a, .int b => a == b
  | .str a, .str b => a == b
  | _, _ => false
def inD (x : D) (l : List D) (neg : Bool) (h : Hh) : Rs D := if flat x = true ∧ l.all flat = true then .ok (.bl (if neg then !(l.any fun y => eqF y x) else l.any fun y => eqF y x)) h else .bad
def seqD : D → Hh → Option (List D)
  | .tup l, _ => some l
  | .ref n, h => lstAt h n
  | _, _ => none
def dctAt (h : Hh) (x : D) : Option (List (Key × D)) := match x with
  | .ref n => match h[n]? with
    | some (.dct l) => some l
    | _ => none
  | _ => none
def keyD : D → Option Key
  | .int i => some (.inl i)
  | .str x => some (.inr x)
  | _ => none
def valD (l : List (Key × D)) (k : Key) : Option D := (l.find? fun kv => decide (kv.1 = k)).map (·.2)
/-- a key of a dict -/
def inK (x : D) (l : List (Key × D)) (neg : Bool) (h : Hh) : Rs D := match keyD x with
  | some k => .ok (.bl (if neg then !(valD l k).isSome else (valD l k).isSome)) h
  | none => .bad
def putD (l : List (Key × D)) (k : Key) (v : D) : List (Key × D) := if l.any (fun kv => decide (kv.1 = k)) then l.map (fun kv => if kv.1 = k then (kv.1, v) else kv) else l ++ [(k, v)]
/-- o.get(k, d) -/
def get2D (x y z : D) (h : Hh) : Rs D := match dctAt h x, keyD y with
  | some l, some k => .ok ((valD l k).getD z) h
  | _, _ => .bad
/-- d[k] = v -/
def dputD (n : Nat) (y z : D) (h : Hh) : Rs Unit := match h[n]?, keyD y with
  | some (.dct l), some k => if l.length < 1000 then .ok () (h.set n (.dct (putD l k z))) else .bad
  | _, _ => .bad
def strsD : List D → Option (List Str)
  | [] => some []
  | .str x :: r => (strsD r).map (x :: ·)
  | _ :: _ => none
def ltF : List D → List D → Option Bool
  | [], [] => some false
  | [], _ :: _ => some true
  | _ :: _, [] => some false
  | .int a :: xs, .int b :: ys => if a = b then ltF xs ys else some (decide (a < b))
  | .str a :: xs, .str b :: ys => if a = b then ltF xs ys else some (decide (a.cps.toList < b.cps.toList))
  | _, _ => none
def ltK : D → D → Option Bool
  | .int a, .int b => some (decide (a < b))
  | .str a, .str b => some (decide (a.cps.toList < b.cps.toList))
  | .tup a, .tup b => ltF a b
  | _, _ => none
def kdS : D → Nat
  | .int _ => 1
  | .str _ => 2
  | .tup (.int _ :: _) => 3
  | .tup (.str _ :: _) => 4
  | _ => 0
def CanS (l : List D) : Prop := l.length < 64 ∧ (l.length < 2 ∨ ∃ k, k ≠ 0 ∧ ∀ x ∈ l, kdS x = k)
open Classical in
noncomputable def srtD (l : List D) : Option (List D) := if h : CanS l ∧ ∃ l' : List D, l'.Perm l ∧ l'.Pairwise (Bef ltK) then some (Classical.choose h.2) else none
theorem srtD_ok {l l' : List D} (c : CanS l) (hp : l'.Perm l) (hs : l'.Pairwise (Bef ltK)) : srtD l = some l' := by
  have h : CanS l ∧ ∃ l' : List D, l'.Perm l ∧ l'.Pairwise (Bef ltK) := ⟨c, l', hp, hs⟩
  unfold srtD
  rw [dif_pos h]
  have q := Classical.choose_spec h.2
  rw [chain_uniq (R := Bef ltK) (fun _ _ => Bef.asy) (q.1.trans hp.symm) q.2 hs]
theorem srtD_of {l l' : List D} (e : srtD l = some l') : CanS l ∧ l'.Perm l ∧ l'.Pairwise (Bef ltK) := by
  unfold srtD at e
  split at e
  · rename_i h
    have q := Classical.choose_spec h.2
    have e' := Option.some.inj e
    rw [e'] at q
    exact ⟨h.1, q⟩
  · cases e
def cmpD : Cop → D → D → Hh → Rs D
  | .lt, .int i, .int j, h => .ok (.bl (decide (i < j))) h
  | .le, .int i, .int j, h => .ok (.bl (decide (i ≤ j))) h
  | .gt, .int i, .int j, h => .ok (.bl (decide (j < i))) h
  | .ge, .int i, .int j, h => .ok (.bl (decide (j ≤ i))) h
  | .eq, x, y, h => match eqH x y h with
    | some b => .ok (.bl b) h
    | none => .bad
  | .ne, x, y, h => match eqH x y h with
    | some b => .ok (.bl (!b)) h
    | none => .bad
  | .is, x, .non, h => .ok (.bl (isNon x)) h
  | .isnot, x, .non, h => .ok (.bl (!isNon x)) h
  | .inn, x, y, h => match dctAt h y with
    | some l => inK x l false h
    | none => match seqD y h with
      | some l => inD x l false h
      | none => .bad
  | .notin, x, y, h => match dctAt h y with
    | some l => inK x l true h
    | none => match seqD y h with
      | some l => inD x l true h
      | none => .bad
  | _, _, _, _ => .bad
def ixS (x y : D) (h : Hh) : Rs D := match seqD x h, y with
  | some l, .int i => match atI l i with
    | some d => .ok d h
    | none => .bad
  | _, _ => .bad
def ixK (l : List (Key × D)) (y : D) (h : Hh) : Rs D := match keyD y with
  | some k => match valD l k with
    | some d => .ok d h
    | none => .bad
  | none => .bad
/-- a text's sign -/
def ixT (x : Str) (y : D) (h : Hh) : Rs D := match y with
  | .int i => if x.length ≤ sizeLine then (match atI x.cps.toList i with
    | some c => .ok (.str ⟨#[c]⟩) h
    | none => .bad) else .bad
  | _ => .bad
def ixD (x y : D) (h : Hh) : Rs D := match x with
  | .str z => ixT z y h
  | x => match dctAt h x with
    | some l => ixK l y h
    | none => ixS x y h
def isLst : D → Hh → Bool
  | .ref n, h => (lstAt h n).isSome
  | _, _ => false
def tyD : D → Hh → Option Ty
  | .bl _, _ => some .bool
  | .int _, _ => some .int
  | .str _, _ => some .str
  | .tup _, _ => some .tuple
  | .ref n, h => match lstAt h n with
    | some _ => some .list
    | none => none
  | _, _ => none
def isTy : Ty → String → Bool
  | .bool, s => s == "bool" || s == "int"
  | t, s => t.nm == s
def tyNames : List String := ["int", "bool", "str", "tuple", "list"]
def isinD (x : D) (T : String) (h : Hh) : Option Bool := match x with
  | .non => if T ∈ tyNames then some false else none
  | x => match tyD x h with
    | some t => if T ∈ tyNames then some (isTy t T) else none
    | none => none
def tysOf : List D → Option (List String)
  | [] => some []
  | .ty T :: r => match tysOf r with
    | some l => some (T :: l)
    | none => none
  | _ => none
def isinAny (x : D) (h : Hh) : List String → Option Bool
  | [] => some false
  | T :: r => match isinD x T h, isinAny x h r with
    | some a, some b => some (a || b)
    | _, _ => none
def isinL (x : D) : D → Hh → Rs D
  | .ty T, h => match isinD x T h with
    | some b => .ok (.bl b) h
    | none => .bad
  | .tup l, h => match tysOf l with
    | some [] => .bad
    | some (T :: Ts) => match isinAny x h (T :: Ts) with
      | some b => .ok (.bl b) h
      | none => .bad
    | none => .bad
  | _, _ => .bad
def intL : D → Hh → Rs D
  | .int i, h => .ok (.int i) h
  | .bl b, h => .ok (.int (if b then 1 else 0)) h
  | _, _ => .bad
def lenL (x : D) (h : Hh) : Rs D := match seqD x h with
  | some l => .ok (.int l.length) h
  | none => .bad
def listL (x : D) (h : Hh) : Rs D := match seqD x h with
  | some l => .ok (.ref h.length) (h ++ [.lst l])
  | none => .bad
noncomputable def srtL (x : D) (h : Hh) : Rs D := match isLst x h, seqD x h with
  | true, some l => match srtD l with
    | some l' => .ok (.ref h.length) (h ++ [.lst l'])
    | none => .bad
  | _, _ => .bad
def joinD (s : Str) (x : D) (h : Hh) : Rs D := match isLst x h, seqD x h with
  | true, some l => match strsD l with
    | some xs => if (xs.map (·.length)).sum + xs.length * s.length ≤ 1000 then .ok (.str (Txt.join s xs)) h else .bad
    | none => .bad
  | _, _ => .bad
/-- a[:i], a[i:] of a list -/
def slUD (x y : D) (h : Hh) : Rs D := match isLst x h, seqD x h, y with
  | true, some l, .int i => if 0 ≤ i then .ok (.ref h.length) (h ++ [.lst (l.take i.toNat)]) else .bad
  | _, _, _ => .bad
def slLD (x y : D) (h : Hh) : Rs D := match isLst x h, seqD x h, y with
  | true, some l, .int i => if 0 ≤ i then .ok (.ref h.length) (h ++ [.lst (l.drop i.toNat)]) else .bad
  | _, _, _ => .bad
def one (k : D → Hh → Rs D) : List D → Hh → Rs D
  | [x], h => k x h
  | _, _ => .bad
def two (k : D → D → Hh → Rs D) : List D → Hh → Rs D
  | [x, y], h => k x y h
  | _, _ => .bad
def intsD : List D → Option (List Int)
  | [] => some []
  | .int i :: r => (intsD r).map (i :: ·)
  | _ :: _ => none
/-- a dict with keys of tuples -/
def putT (l : List (List Int × D)) (k : List Int) (v : D) : List (List Int × D) := if l.any (fun kv => decide (kv.1 = k)) then l.map (fun kv => if kv.1 = k then (kv.1, v) else kv) else l ++ [(k, v)]
def dputT (n : Nat) (l : List (List Int × D)) (y z : D) (h : Hh) : Rs Unit := match y with
  | .tup ks => match intsD ks with
    | some k => if l.length < 1000 then .ok () (h.set n (.dtt (putT l k z))) else .bad
    | none => .bad
  | _ => .bad
/-- lists of rows: the first that is less -/
def ltR : List D → List D → Option Bool
  | [], [] => some false
  | [], _ :: _ => some true
  | _ :: _, [] => some false
  | x :: xs, y :: ys => match eqD 20 x y with
    | some true => ltR xs ys
    | some false => (match x, y with
      | .tup a, .tup b => ltF a b
      | _, _ => none)
    | none => none
def minR (h : Hh) : Nat → List D → Option Nat
  | n, [] => some n
  | n, .ref k :: r => (match lstAt h k, lstAt h n with
    | some a, some b => (match ltR a b with
      | some true => minR h k r
      | some false => minR h n r
      | none => none)
    | _, _ => none)
  | _, _ => none
def minL (l : List D) (h : Hh) : Rs D := match l with
  | .ref n :: r => (match minR h n r with
    | some k => .ok (.ref k) h
    | none => .bad)
  | _ => .bad
/-- the greatest (the least): of equal ones it is the same number -/
def maxI (a : Int) (l : List Int) : Int := l.foldl (fun m x => if x > m then x else m) a
def minI (a : Int) (l : List Int) : Int := l.foldl (fun m x => if x < m then x else m) a
def bestI (mx : Bool) : Int → List Int → Int := if mx then maxI else minI
def bestL (mx : Bool) : List D → Hh → Rs D
  | [x], h => match isLst x h, seqD x h with
    | true, some l => match intsD l with
      | some (i :: r) => .ok (.int (bestI mx i r)) h
      | some [] => .bad
      | none => if mx then .bad else minL l h
    | _, _ => .bad
  | [x, y], h => match x, y with
    | .int i, .int j => .ok (.int (bestI mx i [j])) h
    | _, _ => .bad
  | _, _ => .bad
def bestD (mx : Bool) (x d : D) (h : Hh) : Rs D := match isLst x h, seqD x h with
  | true, some l => match intsD l with
    | some (i :: r) => .ok (.int (bestI mx i r)) h
    | some [] => .ok d h
    | none => .bad
  | _, _ => .bad
def lrgD (x : D) (h : Hh) : Rs D := match x with
  | .int j => if -(2 ^ 62) ≤ j ∧ j ≤ 1000 then .ok (.ref h.length) (h ++ [.lst (rngD 0 j)]) else .bad
  | _ => .bad
def dispD (ks : List Str) (ds : List D) (n : Nat) (h : Hh) : Rs D := match h[n]? with
  | some (.dct []) => if ds.length = ks.length ∧ ks.Nodup ∧ ks.length ≤ 15 then .ok (.ref n) (h.set n (.dct ((ks.map Sum.inr).zip ds))) else .bad
  | _ => .bad
noncomputable def bltD : Blt → List D → Hh → Rs D
  | .len => one lenL
  | .isinst => two isinL
  | .int => one intL
  | .list => one listL
  | .max => bestL true
  | .min => bestL false
  | .sorted => one srtL
def appD (x y : D) (h : Hh) : Rs D := match x with
  | .ref n => match h[n]? with
    | some (.lst l) => if l.length < 1000000 then .ok .non (h.set n (.lst (l ++ [y]))) else .bad
    | _ => .bad
  | _ => .bad
def insD (x y z : D) (h : Hh) : Rs D := match x, y with
  | .ref n, .int i => match h[n]? with
    | some (.lst l) => if 0 ≤ i ∧ i ≤ (l.length : Int) ∧ l.length < 1000000 then .ok .non (h.set n (.lst (l.take i.toNat ++ z :: l.drop i.toNat))) else .bad
    | _ => .bad
  | _, _ => .bad
def compS (t : Tg) (cs : Ev → Hh → Rs Bool) (f : Ev → Hh → Rs D) (n0 : Nat) : List D → Ev → Hh → Rs Unit
  | [], _, h => .ok () h
  | d :: ds, r, h => match setT t d r with
    | none => .bad
    | some r1 => (cs r1 h).bind fun b h => if b = true then (f r1 h).bind fun y h => (appD (.ref n0) y h).bind fun _ h => compS t cs f n0 ds r1 h else compS t cs f n0 ds r1 h
def compI (t : Tg) (cs : Ev → Hh → Rs Bool) (f : Ev → Hh → Rs D) (n0 n : Nat) : Nat → Nat → Ev → Hh → Rs Unit
  | 0, _, _, _ => .bad
  | k + 1, i, r, h => match lstAt h n with
    | none => .bad
    | some l => match l[i]? with
      | none => .ok () h
      | some d => match setT t d r with
        | none => .bad
        | some r1 => (cs r1 h).bind fun b h => if b = true then (f r1 h).bind fun y h => (appD (.ref n0) y h).bind fun _ h => compI t cs f n0 n k (i + 1) r1 h else compI t cs f n0 n k (i + 1) r1 h
def compL (t : Tg) (cs : Ev → Hh → Rs Bool) (f : Ev → Hh → Rs D) (n0 : Nat) (k : Ck) (xs : List D) (h0 : Hh) (r : Ev) (h : Hh) : Rs Unit := match k, xs with
  | .r1, [.int j] => if okR j then compS t cs f n0 (rngD 0 j) r h else .bad
  | .r2, [.int i, .int j] => if okR i ∧ okR j then compS t cs f n0 (rngD i j) r h else .bad
  | .its, [.ref n] => match h0[n]? with
    | some (.dtt l) => compS t cs f n0 (l.map fun p => D.tup [.tup (p.1.map D.int), p.2]) r (h.set n .ded)
    | _ => .bad
  | .sq, [.tup l] => compS t cs f n0 l r h
  | .sq, [.ref n] => match lstAt h0 n with
    | some l => compI t cs f n0 n (l.length + 1) 0 r h
    | none => .bad
  | _, _ => .bad
def dcS (t2 : Tg) (fk fv : Ev → Hh → Rs D) (n0 : Nat) : List D → Ev → Hh → Rs Ev
  | [], r, h => .ok r h
  | d :: ds, r, h => match setT t2 d r with
    | none => .bad
    | some r1 => (fk r1 h).bind fun y h => (fv r1 h).bind fun z h => (dputD n0 y z h).bind fun _ h => dcS t2 fk fv n0 ds r1 h
def dcI (t1 : Tg) (fi : Ev → Hh → Rs D) (t2 : Tg) (fk fv : Ev → Hh → Rs D) (n0 n : Nat) : Nat → Nat → Ev → Hh → Rs Unit
  | 0, _, _, _ => .bad
  | k + 1, i, r, h => match lstAt h n with
    | none => .bad
    | some l => match l[i]? with
      | none => .ok () h
      | some d => match setT t1 d r with
        | none => .bad
        | some r1 => (fi r1 h).bind fun y h => match y with
          | .tup ds => (dcS t2 fk fv n0 ds r1 h).bind fun r2 h => dcI t1 fi t2 fk fv n0 n k (i + 1) r2 h
          | _ => .bad
def dcL (t1 : Tg) (fi : Ev → Hh → Rs D) (t2 : Tg) (fk fv : Ev → Hh → Rs D) (x : D) (r : Ev) (h : Hh) : Rs D := match x with
  | .ref n => match lstAt h n with
    | some l => (dcI t1 fi t2 fk fv h.length n (l.length + 1) 0 r (h ++ [.dct []])).bind fun _ h' => .ok (.ref h.length) h'
    | none => .bad
  | _ => .bad
def capV (r : Ev) (i : Nat) : Option D := match r[i]? with
  | some x => x
  | none => none
def blockE (N : List Str) (cap : List Nat) (r : Ev) : Ev := List.replicate (N.length - cap.length) none ++ cap.map (capV r)
structure Gs where
  fns : List Str
  csts : List (Str × D)
  excs : List Str := []
  sub : List (Nat × Nat) := []
abbrev Cl := Nat → List D → Hh → Rs D
mutual
noncomputable def ev (G : Gs) (cl : Cl) : E → Ev → Hh → Rs D
  | .var i, r, h => match r[i]? with
    | some (some d) => .ok d h
    | _ => .bad
  | .int i, _, h => .ok (.int i) h
  | .bl b, _, h => .ok (.bl b) h
  | .non, _, h => .ok .non h
  | .str x, _, h => .ok (.str x) h
  | .gc g, _, h => match G.csts[g]? with
    | some p => .ok p.2 h
    | none => .bad
  | .ty t, _, h => .ok (.ty t.nm) h
  | .bin op a b, r, h => (ev G cl a r h).bind fun x h => (ev G cl b r h).bind fun y h => binD op x y h
  | .neg a, r, h => (ev G cl a r h).bind fun x h => match x with
    | .int i => .ok (.int (-i)) h
    | _ => .bad
  | .cmp op a b, r, h => (ev G cl a r h).bind fun x h => (ev G cl b r h).bind fun y h => cmpD op x y h
  | .and a b, r, h => (ev G cl a r h).bind fun x h => match truD x h with
    | some true => ev G cl b r h
    | some false => .ok x h
    | none => .bad
  | .or a b, r, h => (ev G cl a r h).bind fun x h => match truD x h with
    | some true => .ok x h
    | some false => ev G cl b r h
    | none => .bad
  | .not a, r, h => (ev G cl a r h).bind fun x h => match truD x h with
    | some b => .ok (.bl (!b)) h
    | none => .bad
  | .ite c a b, r, h => (ev G cl c r h).bind fun x h => match truD x h with
    | some true => ev G cl a r h
    | some false => ev G cl b r h
    | none => .bad
  | .ix a b, r, h => (ev G cl a r h).bind fun x h => (ev G cl b r h).bind fun y h => ixD x y h
  | .tup l, r, h => (evs G cl l r h).bind fun ds h => if ds.length ≤ 1000 then .ok (.tup ds) h else .bad
  | .lst l, r, h => (evs G cl l r h).bind fun ds h => if ds.length ≤ 1000 then .ok (.ref h.length) (h ++ [.lst ds]) else .bad
  | .call f l, r, h => (evs G cl l r h).bind fun ds h => (cl f ds h).nx
  | .blt f l, r, h => (evs G cl l r h).bind fun ds h => bltD f ds h
  | .app o e, r, h => (ev G cl o r h).bind fun x h => if isLst x h = true then (ev G cl e r h).bind fun y h => appD x y h else .bad
  | .ins o i e, r, h => (ev G cl o r h).bind fun x h => if isLst x h = true then (ev G cl i r h).bind fun y h => (ev G cl e r h).bind fun z h => insD x y z h else .bad
  | .mxd mx l d, r, h => (ev G cl l r h).bind fun x h => (ev G cl d r h).bind fun y h => bestD mx x y h
  | .lrg e, r, h => (ev G cl e r h).bind fun x h => lrgD x h
  | .disp ks vs, r, h => (evs G cl vs r (h ++ [.dct []])).bind fun ds h' => dispD ks ds h.length h'
  | .dnw, _, h => .ok (.ref h.length) (h ++ [.dct []])
  | .slU a b, r, h => (ev G cl a r h).bind fun x h => (ev G cl b r h).bind fun y h => slUD x y h
  | .slL a b, r, h => (ev G cl a r h).bind fun x h => (ev G cl b r h).bind fun y h => slLD x y h
  | .dnt, _, h => .ok (.ref h.length) (h ++ [.dtt []])
  | .get2 o k d, r, h => (ev G cl o r h).bind fun x h => if (dctAt h x).isSome = true then (ev G cl k r h).bind fun y h => (ev G cl d r h).bind fun z h => get2D x y z h else .bad
  | .join s e, r, h => (ev G cl e r h).bind fun x h => joinD s x h
  | .dcomp t1 i1 t2 i2 k v N cap, r, h => (ev G cl i1 r h).bind fun x h => dcL t1 (ev G cl i2) t2 (ev G cl k) (ev G cl v) x (blockE N cap r) h
  | .comp t k it cs e N cap, r, h => (evs G cl it r h).bind fun xs h => (compL t (evt G cl cs) (ev G cl e) h.length k xs h (blockE N cap r) (h ++ [.lst []])).bind fun _ h' => .ok (.ref h.length) h'
noncomputable def evt (G : Gs) (cl : Cl) : Es → Ev → Hh → Rs Bool
  | .nil, _, h => .ok true h
  | .cons c l, r, h => (ev G cl c r h).bind fun x h => match truD x h with
    | some true => evt G cl l r h
    | some false => .ok false h
    | none => .bad
noncomputable def evs (G : Gs) (cl : Cl) : Es → Ev → Hh → Rs (List D)
  | .nil, _, h => .ok [] h
  | .cons e l, r, h => (ev G cl e r h).bind fun d h => (evs G cl l r h).bind fun ds h => .ok (d :: ds) h
end
def visB (sc : Scope) (x : Str) : Bool := match sc.names.lookup x with
  | some .local => true
  | some .cell => true
  | some .free => true
  | _ => false
def locB (sc : Scope) (x : Str) : Bool := match sc.names.lookup x with
  | some .local => true
  | some .cell => true
  | _ => false
def glB (sc : Scope) (x : Str) : Bool := match sc.names.lookup x with
  | some .globalImplicit => true
  | _ => false
def noDbg (x : Str) : Bool := !(x == ("__debug__" : Str)) && !(x == ("__classdict__" : Str)) && !(x == ("__name__" : Str))
def Bop.op : Bop → Operator
  | .add => .Add | .sub => .Sub | .mul => .Mult | .fdiv => .FloorDiv | .mod => .Mod | .pow => .Pow
def Cop.op : Cop → CmpOp
  | .lt => .Lt | .le => .LtE | .gt => .Gt | .ge => .GtE | .eq => .Eq | .ne => .NotEq | .is => .Is | .isnot => .IsNot | .inn => .In | .notin => .NotIn
def Blt.nm : Blt → Str
  | .len => "len" | .isinst => "isinstance" | .int => "int" | .list => "list" | .max => "max" | .min => "min" | .sorted => "sorted"
def noSet : PySem.Expr → Bool
  | .Set _ _ _ => false
  | _ => true
def noStar : PySem.Expr → Bool
  | .Starred _ _ => false
  | _ => true
def relab (scope sc : Scope) : Scope := { scope with names := scope.names.map fun (n, k) => if (k == .free && sc.kind == .function && sc.names.lookup n == some .cell) then (n, .cell) else (n, k) }
def chkNs' (N : List Str) (sc : Scope) : List Nat → List PySem.Expr → Bool
  | [], [] => true
  | i :: is, .Name x _ :: es => N[i]? == some x && locB sc x && chkNs' N sc is es
  | _, _ => false
def chkT' (N : List Str) (sc : Scope) : Tg → PySem.Expr → Bool
  | .nm i, .Name x _ => N[i]? == some x && locB sc x
  | .tp l, .Tuple es _ _ => chkNs' N sc l es
  | _, _ => false
def nodupB : List Str → Bool
  | [] => true
  | x :: l => !l.contains x && nodupB l
def scOk (scope sc : Scope) : Bool := scope.kind == .function && sc.kind == .function && nodupB (scope.names.map (·.1)) && scope.names.all fun p => (!(p.2 == .local) || scope.names.lookup p.1 == some .local) && (!(p.2 == .free) || sc.names.lookup p.1 == some .cell)
def capOk (N N' : List Str) (cap : List Nat) (scope : Scope) : Bool := decide (cap.length ≤ N'.length) && (N'.drop (N'.length - cap.length)).map some == cap.map (fun (i : Nat) => N[i]?) && (N'.drop (N'.length - cap.length)).all fun x => scope.names.lookup x == some .free
end Ng
end
section
set_option Elab.async false
set_option linter.all false
set_option maxRecDepth 100000
set_option maxHeartbeats 4000000
set_option autoImplicit false
namespace Ng
open PySem PySem.Spec PyProof.Rows L2
section
variable {prog : Program} {w : World} {A : Around} {E : Value → Shared → Prop} {s : Shared} {it d : Addr} {i n ep : Nat} {q1 q2 : Value} {od : Obj} {es : Array DictEntry}
theorem ownsIt : Builtin.Dict_items.ownsTuple "dict_itemiterator" = true := by decide
theorem itm_iter {v : Addr} {ov : Obj} {Q : Value → Shared → Prop} (gv : s.heap.get? v = some ov) (cv : ov.cls = .type "dict_items") (dv : ov.data = .fields #[.ref d]) (go : s.heap.get? d = some od) (gd : od.data = .dict es ep)
    (c : Q (.ref s.heap.objs.size) { s with heap := s.heap.push { cls := .type "dict_itemiterator", data := .fields #[.none, .bool false, .ref d, .int 0 0, .int es.size 0, .int ep 0, .none, .none] } }) : wpAny (model prog w) A (pyIter (.ref v)) Q E s := by
  have tv : s.TypeIs (.ref v) "dict_items" := ⟨ov, gv, cv⟩
  refine wpAny_pyIter_slot tv F.slot_dict_items_iter (wpAny_call_entry F.slot_dict_items_iter tv F.entry_dict_items_iter ?_ (F.args_dict_items_iter_1 _))
  unfold Builtin.«dict_items.__iter__»
  refine wpAny_bind (wpAny_pure (wpAny_bind ?_))
  unfold Builtin.Dict_items.dictOf
  refine wpAny_bind (wpAny_field gv dv (x := .ref d) rfl (wpAny_pure (wpAny_bind ?_)))
  unfold Builtin.Dict_items.newIterator
  refine wpAny_bind (wpAny_dictEntries go gd (wpAny_bind (wpAny_dictEpoch go gd ?_)))
  simp only [ownsIt, if_true]
  refine wpAny_newObj_type (wpAny_pure ⟨_, rfl, "dict_itemiterator", _, ⟨_, Heap.get?_push_size _ rfl, rfl⟩, F.slot_dict_itemiterator_next.lookup, ?_⟩)
    (by simp only [sizeOk, Builtin.Dict_items.ownedTupleFields, List.size_toArray, List.length_append, List.length_cons, List.length_nil, sizeLine_eq]; omega)
  simpa [rawInt, Builtin.Dict_items.ownedTupleFields] using c
theorem itm_next {en : DictEntry} {Q : Option Value → Shared → Prop} (hit : IsItemIter s.heap it d i n ep q1 q2) (go : s.heap.get? d = some od) (gd : od.data = .dict es ep) (hn : es.size = n) (hx : es[i]? = some en)
    (c : ∀ g, IsItemIterOut g it d (i + 1) n ep en.key en.val s.heap.objs.size → g.get? s.heap.objs.size = some { cls := .type "tuple", data := .seq #[en.key, en.val] } → g.objs.size = s.heap.objs.size + 1 →
      (∀ b o, b ≠ it → s.heap.get? b = some o → g.get? b = some o) → Q (some (.ref s.heap.objs.size)) { s with heap := g }) : wpAny (model prog w) A (pyNext (.ref it)) Q E s := by
  obtain ⟨hp, gn, dr, tk, os⟩ := s
  have T0 : Shared.TypeIs ⟨hp, gn, dr, tk, os⟩ (.ref it) "dict_itemiterator" := ⟨_, hit, rfl⟩
  unfold pyNext
  refine wpAny_bind (wpAny_attempt (wpAny_callSpecial?_slot (name := Str.ofString "__next__") T0 F.slot_dict_itemiterator_next (wpAny_call_entry F.slot_dict_itemiterator_next T0 F.entry_dict_itemiterator_next ?_ (F.args_dict_itemiterator_next_1 _))))
  refine wpAny_bind (wpAny_pure (wpAny_bind (wpAny_bind ?_)))
  first | refine wpAny_bind (wpAny_typeNameOfWhole_itemiter T0 (wpAny_pure ?_)) | refine wpAny_bind (wpAny_typeNameOf_itemiter T0 (wpAny_pure ?_))
  refine wpAny_bind (wpAny_fieldsOf hit rfl ?_)
  simp only [ownsIt, if_true]
  show wpAny _ _ (if (Value.ref d == Value.none) = true then _ else _) _ _ _
  rw [if_neg (show ¬ ((Value.ref d == Value.none) = true) from Bool.false_ne_true)]
  refine wpAny_bind (wpAny_pure (wpAny_bind (wpAny_dictEntries go gd ?_)))
  rw [if_neg (by rw [hn]; simp)]
  refine wpAny_bind (wpAny_pure (wpAny_bind (wpAny_dictEpoch go gd ?_)))
  rw [if_neg (by simp)]
  refine wpAny_pure ?_
  have lt : i < es.size := (Array.getElem?_eq_some_iff.mp hx).1
  have ee : es[i] = en := (Array.getElem?_eq_some_iff.mp hx).2
  simp only [show ¬ ((i : Int) < 0) from by omega, if_false, Int.toNat_natCast, hx]
  refine wpAny_bind ?_
  first | refine wpAny_bind (wpAny_typeNameOfWhole_itemiter T0 (wpAny_pure ?_)) | refine wpAny_bind (wpAny_typeNameOf_itemiter T0 (wpAny_pure ?_))
  refine wpAny_bind (wpAny_isOneOf_itemiter T0 ?_)
  show wpAny _ _ (setField (.ref it) 3 (rawInt ((i : Int) + 1)) >>= _) _ _ ⟨hp, gn, dr, tk, os⟩
  refine wpAny_bind (wpAny_setField_rec hit (by simp) fun a1 e1 s1 => ?_)
  replace s1 : Heap.SameBut it hp a1 := s1
  replace e1 : IsItemIter a1 it d (i + 1) n ep q1 q2 := by
    have z : ((i + 1 : Nat) : Int) = (i : Int) + 1 := by omega
    unfold IsItemIter; rw [z]; simpa [rawInt] using e1
  have T1 : Shared.TypeIs ⟨a1, gn, dr, tk, os⟩ (.ref it) "dict_itemiterator" := ⟨_, e1, rfl⟩
  refine wpAny_bind (wpAny_holding (wpAny_bind (wpAny_isOneOf_itemiter T1 (wpAny_bind (wpAny_isOneOf_itemiter T1 ?_)))))
  show wpAny _ _ (Builtin.Dict_items.pairFromOwner (.ref it) 6 en.key en.val) _ _ ⟨a1, gn, dr, tk, os⟩
  unfold Builtin.Dict_items.pairFromOwner
  refine wpAny_bind (wpAny_newTuple ?_)
  have e2 : IsItemIter (a1.push { cls := .type "tuple", data := .seq #[en.key, en.val] }) it d (i + 1) n ep q1 q2 := Heap.get?_push_of_some _ e1
  generalize h2 : a1.push { cls := .type "tuple", data := .seq #[en.key, en.val] } = a2 at e2
  have z1 : a1.objs.size = hp.objs.size := s1.1
  have il : it < hp.objs.size := Heap.lt_size hit
  have t2 : a2.get? hp.objs.size = some { cls := .type "tuple", data := .seq #[en.key, en.val] } := by rw [← h2, ← z1]; exact Heap.get?_push_size _ rfl
  have z2 : a2.objs.size = hp.objs.size + 1 := by rw [← h2, Heap.size_push, z1]
  have k2 : ∀ b o, b ≠ it → hp.get? b = some o → a2.get? b = some o := fun b o hb e => by rw [← h2]; exact Heap.get?_push_of_some _ (s1.extBut b o hb e)
  show wpAny _ _ (Builtin.Dict_items.ownedTupleIsFree (.ref it) >>= _) _ _ ⟨a2, gn, dr, tk, os⟩
  rw [z1]
  clear h2 e1 s1 T1 z1 a1
  refine wpAny_bind ?_
  unfold Builtin.Dict_items.ownedTupleIsFree
  refine wpAny_bind (wpAny_field e2 rfl (x := .none) rfl (wpAny_pure ?_))
  simp only [if_true]
  refine wpAny_bind (wpAny_field e2 rfl (x := q1) rfl (wpAny_bind (wpAny_field e2 rfl (x := q2) rfl ?_)))
  refine wpAny_bind (wpAny_setField_rec e2 (by simp) fun a3 e3 s3 => ?_)
  replace s3 : Heap.SameBut it a2 a3 := s3
  replace e3 : IsItemIter a3 it d (i + 1) n ep en.key q2 := e3
  refine wpAny_bind (wpAny_setField_rec e3 (by simp) fun a4 e4 s4 => ?_)
  replace s4 : Heap.SameBut it a3 a4 := s4
  replace e4 : IsItemIter a4 it d (i + 1) n ep en.key en.val := e4
  refine wpAny_bind (wpAny_setField_rec e4 (by simp) fun a5 e5 s5 => ?_)
  replace s5 : Heap.SameBut it a4 a5 := s5
  replace e5 : IsItemIterOut a5 it d (i + 1) n ep en.key en.val hp.objs.size := e5
  refine wpAny_bind (wpAny_setField_rec e5 (by simp) fun a6 e6 s6 => ?_)
  replace s6 : Heap.SameBut it a5 a6 := s6
  replace e6 : IsItemIterOut a6 it d (i + 1) n ep en.key en.val hp.objs.size := e6
  refine wpAny_bind (wpAny_letGo (wpAny_pure (wpAny_pure ⟨_, rfl, wpAny_pure (c a6 e6 ?_ ?_ ?_)⟩)))
  · exact s6.extBut _ _ (Nat.ne_of_gt il) (s5.extBut _ _ (Nat.ne_of_gt il) (s4.extBut _ _ (Nat.ne_of_gt il) (s3.extBut _ _ (Nat.ne_of_gt il) t2)))
  · show a6.objs.size = hp.objs.size + 1
    rw [s6.1, s5.1, s4.1, s3.1, z2]
  · exact fun b o hb e => s6.extBut b o hb (s5.extBut b o hb (s4.extBut b o hb (s3.extBut b o hb (k2 b o hb e))))
theorem itm_end {Q : Option Value → Shared → Prop} (hh : A.handled = none) (hit : IsItemIter s.heap it d i n ep q1 q2) (go : s.heap.get? d = some od) (gd : od.data = .dict es ep) (hn : es.size = n) (hx : n ≤ i)
    (c : ∀ g, Heap.ExtBut it s.heap g → Q none { s with heap := g }) : wpAny (model prog w) A (pyNext (.ref it)) Q E s := by
  have T0 : s.TypeIs (.ref it) "dict_itemiterator" := ⟨_, hit, rfl⟩
  unfold pyNext
  refine wpAny_bind (wpAny_attempt (wpAny_callSpecial?_slot (name := Str.ofString "__next__") T0 F.slot_dict_itemiterator_next (wpAny_call_entry F.slot_dict_itemiterator_next T0 F.entry_dict_itemiterator_next ?_ (F.args_dict_itemiterator_next_1 _))))
  refine wpAny_bind (wpAny_pure (wpAny_bind (wpAny_bind ?_)))
  first | refine wpAny_bind (wpAny_typeNameOfWhole_itemiter T0 (wpAny_pure ?_)) | refine wpAny_bind (wpAny_typeNameOf_itemiter T0 (wpAny_pure ?_))
  refine wpAny_bind (wpAny_fieldsOf hit rfl ?_)
  simp only [ownsIt, if_true]
  show wpAny _ _ (if (Value.ref d == Value.none) = true then _ else _) _ _ s
  rw [if_neg (show ¬ ((Value.ref d == Value.none) = true) from Bool.false_ne_true)]
  refine wpAny_bind (wpAny_pure (wpAny_bind (wpAny_dictEntries go gd ?_)))
  rw [if_neg (by rw [hn]; simp)]
  refine wpAny_bind (wpAny_pure (wpAny_bind (wpAny_dictEpoch go gd ?_)))
  rw [if_neg (by simp)]
  refine wpAny_pure ?_
  have ge : es.size ≤ i := by omega
  simp only [show ¬ ((i : Int) < 0) from by omega, if_false, Int.toNat_natCast, Array.getElem?_eq_none ge]
  refine wpAny_bind ?_
  first | refine wpAny_bind (wpAny_typeNameOfWhole_itemiter T0 (wpAny_pure ?_)) | refine wpAny_bind (wpAny_typeNameOf_itemiter T0 (wpAny_pure ?_))
  show wpAny _ _ (setField (.ref it) 2 .none >>= _) _ _ s
  refine wpAny_bind (wpAny_setField hit rfl (by simp) ?_)
  show wpAny _ _ (newExc (.type "StopIteration") [] >>= _) _ _ _
  refine wpAny_bind ?_
  simp only [newExc, newTuple]
  refine wpAny_bind (wpAny_newObj_type ?_ (by size_fits))
  refine wpAny_bind (m := firstArgMember _ _) (wpAny_of_eq (a := Value.none) (by first | rfl | (simp only [firstArgMember]; rfl)) ?_)
  refine wpAny_newObj_type ?_ (by size_fits)
  simp only [raiseNew]
  refine wpAny_bind (wpAny_handled ?_)
  rw [show A.in1.handled = none from hh]
  refine wpAny_bind (wpAny_pure (wpAny_throw ?_))
  refine wpAny_bind (wpAny_isInstance (T := "StopIteration") (b := true) ⟨_, Heap.get?_push_size _ rfl, rfl⟩ isSubtype_stop ?_)
  exact wpAny_pure (c _ (((Heap.SameBut.update ..).extBut.push _).push _))
end
end Ng
end
section
set_option Elab.async false
set_option linter.all false
set_option maxRecDepth 100000
set_option maxHeartbeats 4000000
set_option autoImplicit false
namespace Ng
open PySem PySem.Spec PyProof.Rows L2
def TDE (K : PySem.W.Frag) (f : Ev → Hh → Rs D) : TE := fun s H Q => ∃ m r h d h', Wd K m h H ∧ RSt K m H r s ∧ f r h = .ok d h' ∧
  ∀ m' v H', Gr K m H m' H' → Wd K m' h' H' → RD K m' H' d v → Q v H'
def TDT (K : PySem.W.Frag) (f : Ev → Hh → Rs D) : TT := fun s H Q => ∃ m r h d h' b, Wd K m h H ∧ RSt K m H r s ∧ f r h = .ok d h' ∧ truD d h' = some b ∧
  ∀ m' H', Gr K m H m' H' → Wd K m' h' H' → Q b H'
def TDA (K : PySem.W.Frag) (f : Ev → Hh → Rs (List D)) : TA := fun s H Q => ∃ m r h ds h', Wd K m h H ∧ RSt K m H r s ∧ f r h = .ok ds h' ∧
  ∀ m' vs H', Gr K m H m' H' → Wd K m' h' H' → RDs K m' H' ds vs → Q vs H'
def rD (K : PySem.W.Frag) (k : D → D → Hh → Rs D) : R2 := fun x y H Q => ∃ m h dx dy d h', Wd K m h H ∧ RD K m H dx x ∧ RD K m H dy y ∧ k dx dy h = .ok d h' ∧
  ∀ m' v H', Gr K m H m' H' → Wd K m' h' H' → RD K m' H' d v → Q v H'
def rDc (K : PySem.W.Frag) (k : List D → Hh → Rs D) : List V → Hp → VK → Prop := fun xs H Q => ∃ m h ds d h', Wd K m h H ∧ RDs K m H ds xs ∧ k ds h = .ok d h' ∧
  ∀ m' v H', Gr K m H m' H' → Wd K m' h' H' → RD K m' H' d v → Q v H'
theorem _root_.L2.PE.wk {X : Cx} {e : PySem.Expr} {t t' : TE} (h : PE X e t) (i : ∀ s H Q, t' s H Q → t s H Q) : PE X e t' := fun pins s σ H Q I q => h pins s σ H Q I (i _ _ _ q)
theorem _root_.L2.PT.wk {X : Cx} {e : PySem.Expr} {t t' : TT} (h : PT X e t) (i : ∀ s H Q, t' s H Q → t s H Q) : PT X e t' := fun pins s σ H Q I q => h pins s σ H Q I (i _ _ _ q)
theorem _root_.L2.PA.wk {X : Cx} {e : List PySem.Expr} {t t' : TA} (h : PA X e t) (i : ∀ s H Q, t' s H Q → t s H Q) : PA X e t' := fun pos pins s σ H Q I q => h pos pins s σ H Q I (i _ _ _ q)

theorem TDE.two {K : PySem.W.Frag} {fa fb : Ev → Hh → Rs D} {k : D → D → Hh → Rs D} {s : Sg} {H : Hp} {R : V → V → Hp → Prop} {m : List Addr} {r : Ev} {h : Hh} {d : D} {h' : Hh} (w : Wd K m h H) (st : RSt K m H r s)
    (e : ((fa r h).bind fun x h1 => (fb r h1).bind fun y h2 => k x y h2) = .ok d h')
    (c : ∀ m2 H2 h2 dx dy x y, Gr K m H m2 H2 → Wd K m2 h2 H2 → RD K m2 H2 dx x → RD K m2 H2 dy y → k dx dy h2 = .ok d h' → R x y H2) :
    TDE K fa s H fun x H1 => TDE K fb s H1 fun y H2 => R x y H2 := by
  obtain ⟨dx, h1, e1, e⟩ := Rs.bind_ok e
  obtain ⟨dy, h2, e2, e⟩ := Rs.bind_ok e
  exact ⟨m, r, h, dx, h1, w, st, e1, fun m1 x H1 g1 w1 rx => ⟨m1, r, h1, dy, h2, w1, st.mono g1, e2, fun m2 y H2 g2 w2 ry => c m2 H2 h2 dx dy x y (g1.trans g2) w2 (rx.mono g2) ry e⟩⟩
theorem TDE.op {K : PySem.W.Frag} {fa fb f : Ev → Hh → Rs D} {k : D → D → Hh → Rs D} (hf : ∀ r h, f r h = (fa r h).bind fun x h1 => (fb r h1).bind fun y h2 => k x y h2) (s : Sg) (H : Hp) (Q : VK) (q : TDE K f s H Q) : tOp (rD K k) (TDE K fa) (TDE K fb) s H Q := by
  obtain ⟨m, r, h, d, h', w, st, e, c⟩ := q
  rw [hf] at e
  exact TDE.two w st e fun m2 H2 h2 dx dy x y g w2 rx ry e => ⟨m2, h2, dx, dy, d, h', w2, rx, ry, e, fun m' v H' g' => c m' v H' (g.trans g')⟩

/-- what the walk of a body knows -/
structure XOk (X : Cx) (N : List Str) (sc : Scope) : Prop where
  n : X.N = N
  s : X.env.scope = sc
  calm : X.calm = true
  nd : X.N.Nodup
  room : ∃ k, Room k X.A
  rng : X.mg "range" = none
  po : PassesOwn (model X.prog X.w) X.A X.env X.xe
def spD (K : PySem.W.Frag) (ca : Nat → Addr) (f : List D → Hh → Rs D) (n : Nat) : Sp := fun vs H Q E => vs.length = n ∧ ∃ m h ds, Wd K m h H ∧ RDs K m H ds vs ∧ (match f ds h with
  | .ok d h' => ∀ m' v H', Gr K m H m' H' → Wd K m' h' H' → RD K m' H' d v → Q v H'
  | .exc c _ h' => ∀ m' H' v, Gr K m H m' H' → Wd K m' h' H' → E v (some (ca c)) H'
  | .bad => False)
abbrev bmV : List Value := [.type "ValueError", .type "Exception", .type "BaseException", .type "object"]
/-- an own error class under ValueError -/
structure ExcF (K : PySem.W.Frag) (C : Addr) : Prop where
  own : PySem.W.excIn K C bmV "ValueError.__new__" = true
  kp : PySem.W.keepIn K (.ref C) = true
  val : PySem.W.kitOne K (.ref C) (.type "ValueError") = some true
structure GOk (X : Cx) (G : Gs) (ca : Nat → Addr) (cl : Cl) : Prop where
  fn : ∀ (f : Nat) (x : Str), G.fns[f]? = some x → ∃ fa fd ps k, FnOk X.prog X.w X.K X.mg X.base (CX1 X.prog X.w) k fa fd ps (spD X.K ca (cl f) ps.length) ∧ Room k X.A ∧ X.mg x = some (.ref fa) ∧ PySem.W.keepIn X.K (.ref fa) = true ∧ Binds X.K fd ps [] ∧ ∀ ds h, cl f ds h ≠ .bad → ds.length = ps.length
  cst : ∀ (g : Nat) (x : Str) (d : D), G.csts[g]? = some (x, d) → ∃ v u, X.mg x = some u ∧ RelV v u ∧ ∀ m H, RD X.K m H d v
  blt : ∀ f : Blt, X.mg f.nm = none
  ty : ∀ t : Ty, X.mg (Str.ofString t.nm) = none
  exc : ∀ (c : Nat) (x : Str), G.excs[c]? = some x → X.mg x = some (.ref (ca c)) ∧ ExcF X.K (ca c)
  sub : ∀ p ∈ G.sub, PySem.W.exmOne X.K (.ref (ca p.1)) (.ref (ca p.2)) = some true ∧ PySem.W.kitOne X.K (.ref (ca p.1)) (.ref (ca p.2)) = some true ∧ ExcF X.K (ca p.1)
  verr : X.mg "ValueError" = none

section
variable {X : Cx}
theorem opBin (op : Bop) : OpR X (binaryOp op.op) (rD X.K (binD op)) := by
  intro pins s σ H x y v u Q I rx ry q
  obtain ⟨m, h, dx, dy, d, h', w, r1, r2, e, c⟩ := q
  have fin : ∀ z, RD X.K m H d z → h = h' → Q z H := fun z rz eh => by subst eh; exact c m z H Gr.refl w rz
  cases op with
  | add =>
    have k : (∃ i j, dx = .int i ∧ dy = .int j) ∨ (∃ a b, dx = .str a ∧ dy = .str b) ∨ (∃ a b, dx = .tup a ∧ dy = .tup b) ∨ ∃ a b, dx = .ref a ∧ dy = .ref b := by
      cases dx <;> first | (cases e; done) | skip
      · exact .inl ⟨_, (by cases dy <;> first | (cases e; done) | exact ⟨_, rfl, rfl⟩)⟩
      · exact .inr (.inl ⟨_, (by cases dy <;> first | (cases e; done) | exact ⟨_, rfl, rfl⟩)⟩)
      · exact .inr (.inr (.inl ⟨_, (by cases dy <;> first | (cases e; done) | exact ⟨_, rfl, rfl⟩)⟩))
      · exact .inr (.inr (.inr ⟨_, (by cases dy <;> first | (cases e; done) | exact ⟨_, rfl, rfl⟩)⟩))
    rcases k with ⟨i, j, rfl, rfl⟩ | ⟨a, b, rfl, rfl⟩ | ⟨a, b, rfl, rfl⟩ | ⟨a, b, rfl, rfl⟩
    · cases r1; cases r2
      cases e
      exact op_add pins s σ H _ _ v u Q I rx ry ⟨_, _, rfl, rfl, fin _ (.int _) rfl⟩
    · cases r1; cases r2
      have e' : (if a.length + b.length ≤ sizeLine then Rs.ok (D.str (a ++ b)) h else .bad) = .ok d h' := e
      split at e'
      · rename_i hz
        cases e'
        exact op_add_str pins s σ H _ _ v u Q I rx ry ⟨_, _, rfl, rfl, hz, fin _ (.str _) rfl⟩
      · cases e'
    · have e' : (if a.length + b.length ≤ 1000 ∧ 0 < a.length ∧ 0 < b.length then Rs.ok (D.tup (a ++ b)) h else .bad) = .ok d h' := e
      split at e'
      · rename_i hz
        cases e'
        cases r1 with
        | tup h1 q1 =>
          cases r2 with
          | tup h2 q2 =>
            have l1 := q1.length
            have l2 := q2.length
            refine op_catT pins s σ H _ _ v u Q I rx ry ⟨_, _, _, _, rfl, rfl, h1, h2, (fun z => by rw [z, List.length_nil] at l1; omega), Nat.le_trans (by omega) (show 1000 ≤ sizeLine by decide), (fun z => by rw [z, List.length_nil] at l2; omega), fun _ p hp => ?_⟩
            exact c m _ _ (Gr.tupNew hp) (w.keepNew hp) (.tup (.of upd_same) ((q1.append q2).mono (Gr.tupNew hp)))
      · cases e'
    · have e' : (match h[a]?, h[b]? with | some (.lst x), some (.lst y) => (if x.length + y.length ≤ 1000 then Rs.ok (D.ref h.length) (h ++ [O.lst (x ++ y)]) else .bad) | _, _ => .bad) = .ok d h' := e
      split at e'
      · rename_i la lb ea eb
        split at e'
        · rename_i hz
          cases e'
          cases r1 with
          | ref m1 =>
            cases r2 with
            | ref m2 =>
              obtain ⟨vs, hv, q1⟩ : ∃ vs, H _ = some (.lst vs) ∧ RDs X.K m H la vs := w.ob a _ _ ea m1
              obtain ⟨us, hu, q2⟩ : ∃ vs, H _ = some (.lst vs) ∧ RDs X.K m H lb vs := w.ob b _ _ eb m2
              have l1 := q1.length
              have l2 := q2.length
              refine op_cat pins s σ H _ _ v u Q I rx ry ⟨_, _, _, _, rfl, rfl, hv, hu, Nat.le_trans (by omega) (show 1000 ≤ sizeLine by decide), fun p hp => ?_⟩
              obtain ⟨w2, g2⟩ := w.lstNew hp (q1.append q2)
              exact c _ _ _ g2 w2 (.ref (by rw [← w.len]; simp))
        · cases e'
      · cases e'
  | sub =>
    obtain ⟨i, rfl⟩ : ∃ i, dx = .int i := by cases dx <;> first | exact ⟨_, rfl⟩ | (cases e; done)
    obtain ⟨j, rfl⟩ : ∃ j, dy = .int j := by cases dy <;> first | exact ⟨_, rfl⟩ | (cases e; done)
    cases r1; cases r2
    cases e
    exact op_sub pins s σ H _ _ v u Q I rx ry ⟨_, _, rfl, rfl, fin _ (.int _) rfl⟩
  | mul =>
    obtain ⟨i, rfl⟩ : ∃ i, dx = .int i := by cases dx <;> first | exact ⟨_, rfl⟩ | (cases e; done)
    obtain ⟨j, rfl⟩ : ∃ j, dy = .int j := by cases dy <;> first | exact ⟨_, rfl⟩ | (cases e; done)
    cases r1; cases r2
    have e' : (if (-(2 ^ 64) < i ∧ i < 2 ^ 64) ∨ (-(2 ^ 64) < j ∧ j < 2 ^ 64) then Rs.ok (D.int (i * j)) h else .bad) = .ok d h' := e
    split at e'
    · rename_i hz
      cases e'
      exact op_mul pins s σ H _ _ v u Q I rx ry ⟨_, _, rfl, rfl, hz, fin _ (.int _) rfl⟩
    · cases e'
  | fdiv =>
    obtain ⟨i, rfl⟩ : ∃ i, dx = .int i := by cases dx <;> first | exact ⟨_, rfl⟩ | (cases e; done)
    obtain ⟨j, rfl⟩ : ∃ j, dy = .int j := by cases dy <;> first | exact ⟨_, rfl⟩ | (cases e; done)
    cases r1; cases r2
    have e' : (if 0 < j ∧ j < 1073741824 then Rs.ok (D.int (i / j)) h else .bad) = .ok d h' := e
    split at e'
    · rename_i hz
      cases e'
      exact op_fdiv pins s σ H _ _ v u Q I rx ry ⟨_, _, rfl, rfl, hz, fin _ (.int _) rfl⟩
    · cases e'
  | mod =>
    obtain ⟨i, rfl⟩ : ∃ i, dx = .int i := by cases dx <;> first | exact ⟨_, rfl⟩ | (cases e; done)
    obtain ⟨j, rfl⟩ : ∃ j, dy = .int j := by cases dy <;> first | exact ⟨_, rfl⟩ | (cases e; done)
    cases r1; cases r2
    have e' : (if 0 < j then Rs.ok (D.int (i % j)) h else .bad) = .ok d h' := e
    split at e'
    · rename_i hz
      cases e'
      exact op_mod pins s σ H _ _ v u Q I rx ry ⟨_, _, rfl, rfl, hz, fin _ (.int _) rfl⟩
    · cases e'
  | pow =>
    obtain ⟨i, rfl⟩ : ∃ i, dx = .int i := by cases dx <;> first | exact ⟨_, rfl⟩ | (cases e; done)
    obtain ⟨j, rfl⟩ : ∃ j, dy = .int j := by cases dy <;> first | exact ⟨_, rfl⟩ | (cases e; done)
    cases r1; cases r2
    have e' : (if 0 ≤ j ∧ j ≤ 1000000 ∧ i.natAbs < 2 ^ 64 then Rs.ok (D.int (i ^ j.toNat)) h else .bad) = .ok d h' := e
    split at e'
    · rename_i hz
      cases e'
      exact op_pow pins s σ H _ _ v u Q I rx ry ⟨_, _, rfl, rfl, hz, fin _ (.int _) rfl⟩
    · cases e'

theorem eqL_all {f : D → D → Option Bool} : ∀ {a b : List D} {k : Bool}, eqL f a b = some k → ∃ e : Nat → Bool, (∀ j x y, a[j]? = some x → b[j]? = some y → f x y = some (e j)) ∧ k = ((List.range (min a.length b.length)).all e && a.length == b.length)
  | [], [], k, h => by
    simp [eqL] at h
    exact ⟨fun _ => true, fun j x y e => by simp at e, by simp [h.symm]⟩
  | [], _ :: _, k, h => by
    simp [eqL] at h
    exact ⟨fun _ => true, fun j x y e => by simp at e, by simp [h.symm]⟩
  | _ :: _, [], k, h => by
    simp [eqL] at h
    exact ⟨fun _ => true, fun j x y _ e => by simp at e, by simp [h.symm]⟩
  | x :: xs, y :: ys, k, h => by
    simp only [eqL] at h
    split at h
    · rename_i a b h1 h2
      obtain ⟨e, p, q⟩ := eqL_all h2
      refine ⟨fun j => match j with
        | 0 => a
        | j + 1 => e j, fun j x' y' e1 e2 => ?_, ?_⟩
      · cases j with
        | zero => simp at e1 e2; subst e1; subst e2; exact h1
        | succ j => exact p j x' y' (by simpa using e1) (by simpa using e2)
      · have h' : (a && b) = k := Option.some.inj h
        rw [← h', q]
        simp only [List.length_cons, Nat.succ_min_succ, List.range_succ_eq_map, List.all_cons, List.all_map]
        rw [show ((xs.length + 1 == ys.length + 1) : Bool) = (xs.length == ys.length) by simp]
        rw [Bool.and_assoc]
        rfl
    · cases h
theorem eqD_same {pins : List (Addr × Obj)} {σ : Sg} {H : Hp} {s : Shared} {m : List Addr} (I : Inv X pins σ H s) : ∀ (n : Nat) {d d' : D} {v : V} {b : Bool}, RD X.K m H d v → RD X.K m H d' v → eqD n d d' = some b → b = true := by
  intro n
  induction n with
  | zero =>
    intro d d' v b r r' e
    cases r <;> cases r' <;> simp [eqD] at e <;> exact e
  | succ n ih =>
    intro d d' v b r r' e
    cases r <;> cases r' <;> first | (simp [eqD] at e; exact e) | (simp [eqD] at e; done) | skip
    rename_i a ds vs h1 q1 ds' vs' q2 h2
    obtain rfl := I.tuple_inj h1 h2
    have go : ∀ {ds ds' : List D} {vs : List V} {b : Bool}, RDs X.K m H ds vs → RDs X.K m H ds' vs → eqL (eqD n) ds ds' = some b → b = true := by
      intro ds
      induction ds with
      | nil =>
        intro ds' vs b q1 q2 e
        cases q1; cases q2
        simp [eqL] at e; exact e
      | cons x xs ih2 =>
        intro ds' vs b q1 q2 e
        cases q1 with
        | cons p1 t1 =>
          cases q2 with
          | cons p2 t2 =>
            simp only [eqL] at e
            split at e
            · rename_i k1 k2 z1 z2
              have := ih p1 p2 z1
              have := ih2 t1 t2 z2
              subst_vars
              simpa using e.symm
            · cases e
    exact go q1 q2 (by simpa [eqD] using e)
theorem eqAt_D {pins : List (Addr × Obj)} {σ : Sg} {H : Hp} {s : Shared} {m : List Addr} (I : Inv X pins σ H s) : ∀ (n : Nat) {A : Around} {d d' : D} {v v' : V} {u u' : Value} {b : Bool}, A.units + n < cLine → RD X.K m H d v → RD X.K m H d' v' → RelV v u → RelV v' u' → eqD n d d' = some b → SeqAt.EqAt A s u u' b := by
  intro n
  induction n with
  | zero =>
    intro A d d' v v' u u' b hu r r' q q' e
    cases r <;> cases r' <;> first | (simp [eqD] at e; done) | skip
    all_goals simp [eqD] at e
    all_goals subst e
    all_goals first
      | (have h := eqAt_V (A := A) (s := s) q q' rfl rfl; simpa [eqV] using h)
  | succ n ih =>
    intro A d d' v v' u u' b hu r r' q q' e
    cases r <;> cases r' <;> first | (simp [eqD] at e; done) | skip
    all_goals first
      | (simp [eqD] at e; subst e; have h := eqAt_V (A := A) (s := s) q q' rfl rfl; simpa [eqV] using h)
      | skip
    rename_i a ds vs h1 q1 a' ds' vs' h2 q2
    cases q; cases q'
    by_cases ha : a = a'
    · subst ha
      have := eqD_same I (n + 1) (.tup h1 q1) (.tup h2 q2) e
      subst this
      exact SeqAt.EqAt.same _
    · obtain ⟨its, p1, t1, _⟩ := I.tuple h1
      obtain ⟨its', p2, t2, _⟩ := I.tuple h2
      obtain ⟨f, hf, rfl⟩ := eqL_all (show eqL (eqD n) ds ds' = some b from by simpa [eqD] using e)
      have l1 := q1.length
      have l2 := q2.length
      have l3 := p1.length
      have l4 := p2.length
      have key := SeqAt.RcAt.tuples (A := A) (e := f) t1 t2 (by omega) (fun j j1 j2 => by
        have j1' : j < its.length := by simpa using j1
        have j2' : j < its'.length := by simpa using j2
        have e1 : ds[j]? = some ds[j] := List.getElem?_eq_getElem (by omega)
        have e2 : ds'[j]? = some ds'[j] := List.getElem?_eq_getElem (by omega)
        obtain ⟨x, hx, rx⟩ := q1.get e1
        obtain ⟨y, hy, ry⟩ := q2.get e2
        obtain ⟨ux, hux, sx⟩ := p1.get hx
        obtain ⟨uy, huy, sy⟩ := p2.get hy
        have z1 : its.toArray[j] = ux := by
          have := List.getElem?_eq_some_iff.mp hux
          obtain ⟨_, z⟩ := this
          simpa using z
        have z2 : its'.toArray[j] = uy := by
          have := List.getElem?_eq_some_iff.mp huy
          obtain ⟨_, z⟩ := this
          simpa using z
        rw [z1, z2]
        exact ih (A := A.in1) (by show A.units + 1 + n < cLine; omega) rx ry sx sy (hf j _ _ e1 e2))
      refine SeqAt.EqAt.of_refs ha ?_
      have el : its.toArray.size = ds.length := by simp; omega
      have el' : its'.toArray.size = ds'.length := by simp; omega
      rw [el, el'] at key
      exact key
end
end Ng
end
section
set_option Elab.async false
set_option linter.all false
set_option maxRecDepth 100000
set_option maxHeartbeats 4000000
set_option autoImplicit false
namespace Ng
open PySem PySem.Spec PyProof.Rows L2
section
variable {X : Cx}
/-- the two sequences of an == -/
theorem eqSeq {pins : List (Addr × Obj)} {σ : Sg} {H : Hp} {s : Shared} {m : List Addr} (I : Inv X pins σ H s) {n : Nat} {A : Around} {ds ds' : List D} {vs vs' : List V} {its its' : List Value} (hu : A.units + 1 + n < cLine)
    (q1 : RDs X.K m H ds vs) (q2 : RDs X.K m H ds' vs') (p1 : Vals vs its) (p2 : Vals vs' its') {f : Nat → Bool} (hf : ∀ j x y, ds[j]? = some x → ds'[j]? = some y → eqD n x y = some (f j)) :
    ∀ j (h1 : j < its.toArray.size) (h2 : j < its'.toArray.size), SeqAt.EqAt A.in1 s its.toArray[j] its'.toArray[j] (f j) := fun j j1 j2 => by
  have l1 := q1.length
  have l2 := q2.length
  have l3 := p1.length
  have l4 := p2.length
  have j1' : j < its.length := by simpa using j1
  have j2' : j < its'.length := by simpa using j2
  have e1 : ds[j]? = some ds[j] := List.getElem?_eq_getElem (by omega)
  have e2 : ds'[j]? = some ds'[j] := List.getElem?_eq_getElem (by omega)
  obtain ⟨x, hx, rx⟩ := q1.get e1
  obtain ⟨y, hy, ry⟩ := q2.get e2
  obtain ⟨ux, hux, sx⟩ := p1.get hx
  obtain ⟨uy, huy, sy⟩ := p2.get hy
  have z1 : its.toArray[j] = ux := by
    obtain ⟨_, z⟩ := List.getElem?_eq_some_iff.mp hux
    simpa using z
  have z2 : its'.toArray[j] = uy := by
    obtain ⟨_, z⟩ := List.getElem?_eq_some_iff.mp huy
    simpa using z
  rw [z1, z2]
  exact eqAt_D I n (by show A.units + 1 + n < cLine; omega) rx ry sx sy (hf j _ _ e1 e2)
/-- == and != -/
theorem eq_both {pins : List (Addr × Obj)} {σ : Sg} {H : Hp} {s : Shared} {m : List Addr} {h : Hh} (I : Inv X pins σ H s) (hr : ∃ k, Room k X.A) {x y : V} {v u : Value} {dx dy : D} {b : Bool} (w : Wd X.K m h H) (r1 : RD X.K m H dx x) (r2 : RD X.K m H dy y)
    (rx : RelV x v) (ry : RelV y u) (e : eqH dx dy h = some b) : SeqAt.RcAt X.A s v u b ∧ SeqAt.RcNeAt X.A s v u (!b) := by
  obtain ⟨k, hr⟩ := hr
  have hu := hr.units
  cases r1 <;> cases r2 <;> first | (simp [eqH, eqD] at e; done) | skip
  case ref.ref =>
    rename_i i a ha j c hc
    cases rx; cases ry
    simp only [eqH] at e
    split at e
    · rename_i ds ds' e1 e2
      obtain ⟨a', vs, ha', hq, q1⟩ := w.lst e1
      obtain ⟨c', vs', hc', hq', q2⟩ := w.lst e2
      rw [ha] at ha'; cases ha'
      rw [hc] at hc'; cases hc'
      obtain ⟨its, p1, t1, _⟩ := I.list hq
      obtain ⟨its', p2, t2, _⟩ := I.list hq'
      have l1 := q1.length
      have l2 := q2.length
      have l3 := p1.length
      have l4 := p2.length
      split at e
      · rename_i el
        obtain ⟨f, hf, rfl⟩ := eqL_all e
        have hs : its.toArray.size = its'.toArray.size := by simp; omega
        have he := eqSeq (A := X.A) I (n := 20) (by omega) q1 q2 p1 p2 hf
        have el2 : its.toArray.size = ds.length := by simp; omega
        have k1 := SeqAt.RcAt.lists (A := X.A) (e := f) t1.isList t2.isList hs (by omega) he
        have k2 := SeqAt.RcNeAt.lists (A := X.A) (e := f) t1.isList t2.isList hs (by omega) he
        rw [el2] at k1 k2
        rw [show (min ds.length ds'.length) = ds.length by omega, show (ds.length == ds'.length) = true by simp [el], Bool.and_true]
        exact ⟨k1, k2⟩
      · rename_i el
        have eb : false = b := Option.some.inj e
        subst eb
        have hs : (its.toArray.size != its'.toArray.size) = true := by simp; omega
        exact ⟨SeqAt.RcAt.lists_lengths t1.isList t2.isList hs (by omega), SeqAt.RcNeAt.lists_lengths t1.isList t2.isList hs (by omega)⟩
    · cases e
  case tup.tup =>
    rename_i a ds vs h1 q1 a' ds' vs' h2 q2
    cases rx; cases ry
    obtain ⟨its, p1, t1, _⟩ := I.tuple h1
    obtain ⟨its', p2, t2, _⟩ := I.tuple h2
    have l1 := q1.length
    have l2 := q2.length
    have l3 := p1.length
    have l4 := p2.length
    obtain ⟨f, hf, rfl⟩ := eqL_all (show eqL (eqD 19) ds ds' = some b from by simpa [eqH, eqD] using e)
    have he := eqSeq (A := X.A) I (n := 19) (by omega) q1 q2 p1 p2 hf
    have k1 := SeqAt.RcAt.tuples (A := X.A) (e := f) t1 t2 (by omega) he
    have k2 := SeqAt.RcNeAt.tuples (A := X.A) (e := f) t1 t2 (by omega) he
    have el : its.toArray.size = ds.length := by simp; omega
    have el' : its'.toArray.size = ds'.length := by simp; omega
    rw [el, el'] at k1 k2
    exact ⟨k1, k2⟩
  all_goals simp [eqH, eqD] at e
  all_goals subst e
  case non.non => cases rx; cases ry; exact ⟨SeqAt.RcAt.none_none, SeqAt.RcNeAt.none_none⟩
  case non.int => cases rx; obtain ⟨t, rfl⟩ := ry; exact ⟨SeqAt.RcAt.none_int _ _, SeqAt.RcNeAt.none_int _ _⟩
  case non.str => cases rx; obtain ⟨t, rfl⟩ := ry; exact ⟨SeqAt.RcAt.none_str _ _, SeqAt.RcNeAt.none_str _ _⟩
  case int.non => cases ry; obtain ⟨t, rfl⟩ := rx; exact ⟨SeqAt.RcAt.int_none _ _, SeqAt.RcNeAt.int_none _ _⟩
  case str.non => cases ry; obtain ⟨t, rfl⟩ := rx; exact ⟨SeqAt.RcAt.str_none _ _, SeqAt.RcNeAt.str_none _ _⟩
  case bl.bl => cases rx; cases ry; exact ⟨SeqAt.RcAt.bool_bool _ _, SeqAt.RcNeAt.bool_bool _ _⟩
  case int.int => obtain ⟨t, rfl⟩ := rx; obtain ⟨t', rfl⟩ := ry; exact ⟨SeqAt.RcAt.int_int _ _ _ _, SeqAt.RcNeAt.int_int _ _ _ _⟩
  case int.str => obtain ⟨t, rfl⟩ := rx; obtain ⟨t', rfl⟩ := ry; exact ⟨SeqAt.RcAt.int_str _ _ _ _, SeqAt.RcNeAt.int_str _ _ _ _⟩
  case str.int => obtain ⟨t, rfl⟩ := rx; obtain ⟨t', rfl⟩ := ry; exact ⟨SeqAt.RcAt.str_int _ _ _ _, SeqAt.RcNeAt.str_int _ _ _ _⟩
  case str.str => obtain ⟨t, rfl⟩ := rx; obtain ⟨t', rfl⟩ := ry; exact ⟨SeqAt.RcAt.str_str _ _ _ _, SeqAt.RcNeAt.str_str _ _ _ _⟩

theorem RD.flat {K : PySem.W.Frag} {m : List Addr} {H : Hp} {d : D} {v : V} (r : RD K m H d v) (f : flat d = true) : flatV v = true := by
  cases r <;> first | rfl | (cases f; done)
theorem RD.eqF {K : PySem.W.Frag} {m : List Addr} {H : Hp} {d d' : D} {v v' : V} (r : RD K m H d v) (r' : RD K m H d' v') (f : Ng.flat d = true) (f' : Ng.flat d' = true) : eqV v v' = Ng.eqF d d' := by
  cases r <;> first | (cases f; done) | skip
  all_goals cases r' <;> first | (cases f'; done) | rfl
theorem RDs.flat {K : PySem.W.Frag} {m : List Addr} {H : Hp} : ∀ {ds : List D} {vs : List V}, RDs K m H ds vs → ds.all Ng.flat = true → vs.all flatV = true
  | _, _, .nil, _ => rfl
  | _, _, .cons r t, f => by
    rw [List.all_cons, Bool.and_eq_true] at f
    rw [List.all_cons, r.flat f.1, RDs.flat t f.2]
    rfl
theorem RDs.anyF {K : PySem.W.Frag} {m : List Addr} {H : Hp} {x : D} {v : V} (rx : RD K m H x v) (fx : Ng.flat x = true) : ∀ {ds : List D} {vs : List V}, RDs K m H ds vs → ds.all Ng.flat = true → inV v vs = ds.any fun y => Ng.eqF y x
  | _, _, .nil, _ => rfl
  | _, _, .cons r t, f => by
    rw [List.all_cons, Bool.and_eq_true] at f
    have ih := RDs.anyF rx fx t f.2
    unfold inV at ih ⊢
    rw [List.any_cons, List.any_cons, ih, r.eqF rx f.1 fx]
/-- a list or tuple that is read -/
theorem seq_of {m : List Addr} {h : Hh} {H : Hp} {K : PySem.W.Frag} (w : Wd K m h H) {d : D} {v : V} {l : List D} (r : RD K m H d v) (e : seqD d h = some l) : ∃ p vs, v = .ref p ∧ (SqL K H p vs ∨ SqT K H p vs) ∧ RDs K m H l vs := by
  cases r <;> first | (simp [seqD] at e; done) | skip
  · rename_i a ds vs h1 q
    have e' : ds = l := by simpa [seqD] using e
    subst e'
    exact ⟨a, vs, rfl, .inr h1, q⟩
  · rename_i n a ha
    obtain ⟨a', vs, ha', hq, q⟩ := w.lst (show lstAt h n = some l from e)
    rw [ha] at ha'; cases ha'
    exact ⟨a, vs, rfl, .inl hq, q⟩
theorem valD_rel {K : PySem.W.Frag} {m : List Addr} {H : Hp} {k : Key} {d : D} : ∀ {ds : List (Key × D)} {us : List (Key × V)}, ds.map (·.1) = us.map (·.1) → RDs K m H (ds.map (·.2)) (us.map (·.2)) → valD ds k = some d → ∃ v, valV us k = some v ∧ RD K m H d v
  | [], _, _, _, e => by simp [valD] at e
  | p :: ds, [], hk, _, _ => by simp at hk
  | p :: ds, q :: us, hk, r, e => by
    simp only [List.map_cons, List.cons.injEq] at hk
    cases r with
    | cons r1 r2 =>
      unfold valD at e
      unfold valV
      rw [List.find?_cons] at e ⊢
      rw [← hk.1]
      by_cases z : p.1 = k
      · rw [decide_eq_true z] at e ⊢
        simp only at e ⊢
        cases e
        exact ⟨q.2, rfl, r1⟩
      · rw [decide_eq_false z] at e ⊢
        exact valD_rel hk.2 r2 e
theorem keyD_rel {K : PySem.W.Frag} {m : List Addr} {H : Hp} {d : D} {v : V} {k : Key} (r : RD K m H d v) (e : keyD d = some k) : v = kV k := by
  cases r <;> first | (cases e; done) | (cases e; rfl)
theorem dctAt_rel {K : PySem.W.Frag} {m : List Addr} {h : Hh} {H : Hp} {x : D} {v : V} {l : List (Key × D)} (w : Wd K m h H) (r : RD K m H x v) (e : dctAt h x = some l) : ∃ n a us, x = .ref n ∧ v = .ref a ∧ h[n]? = some (.dct l) ∧ m[n]? = some a ∧ H a = some (.dK us) ∧ l.map (·.1) = us.map (·.1) ∧ RDs K m H (l.map (·.2)) (us.map (·.2)) := by
  cases r <;> first | (cases e; done) | skip
  rename_i n a ha
  simp only [dctAt] at e
  split at e
  · rename_i l' el
    cases e
    obtain ⟨us, q1, q2, q3⟩ := w.ob n _ a el ha
    exact ⟨n, a, us, rfl, rfl, el, ha, q1, q2, q3⟩
  · cases e
theorem valD_none {K : PySem.W.Frag} {k : Key} : ∀ {ds : List (Key × D)} {us : List (Key × V)}, ds.map (·.1) = us.map (·.1) → valD ds k = none → valV us k = none
  | [], [], _, _ => rfl
  | [], q :: us, hk, _ => by simp at hk
  | p :: ds, [], hk, _ => by simp at hk
  | p :: ds, q :: us, hk, e => by
    simp only [List.map_cons, List.cons.injEq] at hk
    unfold valD at e
    unfold valV
    rw [List.find?_cons] at e ⊢
    rw [← hk.1]
    by_cases z : p.1 = k
    · rw [decide_eq_true z] at e; cases e
    · rw [decide_eq_false z] at e ⊢
      exact valD_none (K := K) hk.2 e
theorem isSome_rel {K : PySem.W.Frag} {m : List Addr} {H : Hp} {k : Key} {ds : List (Key × D)} {us : List (Key × V)} (hk : ds.map (·.1) = us.map (·.1)) (r : RDs K m H (ds.map (·.2)) (us.map (·.2))) : (valV us k).isSome = (valD ds k).isSome := by
  cases e : valD ds k with
  | none => rw [valD_none (K := K) hk e] <;> rfl
  | some d => obtain ⟨v, hv, _⟩ := valD_rel hk r e; rw [hv]; rfl
theorem opCmp (hr : ∃ k, Room k X.A) (op : Cop) : OpR X (compareOp op.op) (rD X.K (cmpD op)) := by
  intro pins s σ H x y v u Q I rx ry q
  obtain ⟨m, h, dx, dy, d, h', w, r1, r2, e, c⟩ := q
  have fin : ∀ z, RD X.K m H d z → h = h' → Q z H := fun z rz eh => by subst eh; exact c m z H Gr.refl w rz
  cases op with
  | lt =>
    obtain ⟨i, rfl⟩ : ∃ i, dx = .int i := by cases dx <;> first | exact ⟨_, rfl⟩ | (cases e; done)
    obtain ⟨j, rfl⟩ : ∃ j, dy = .int j := by cases dy <;> first | exact ⟨_, rfl⟩ | (cases e; done)
    cases r1; cases r2
    cases e
    exact op_lt pins s σ H _ _ v u Q I rx ry ⟨_, _, rfl, rfl, fin _ (.bl _) rfl⟩
  | le =>
    obtain ⟨i, rfl⟩ : ∃ i, dx = .int i := by cases dx <;> first | exact ⟨_, rfl⟩ | (cases e; done)
    obtain ⟨j, rfl⟩ : ∃ j, dy = .int j := by cases dy <;> first | exact ⟨_, rfl⟩ | (cases e; done)
    cases r1; cases r2
    cases e
    exact op_le pins s σ H _ _ v u Q I rx ry ⟨_, _, rfl, rfl, fin _ (.bl _) rfl⟩
  | gt =>
    obtain ⟨i, rfl⟩ : ∃ i, dx = .int i := by cases dx <;> first | exact ⟨_, rfl⟩ | (cases e; done)
    obtain ⟨j, rfl⟩ : ∃ j, dy = .int j := by cases dy <;> first | exact ⟨_, rfl⟩ | (cases e; done)
    cases r1; cases r2
    cases e
    exact op_gt pins s σ H _ _ v u Q I rx ry ⟨_, _, rfl, rfl, fin _ (.bl _) rfl⟩
  | ge =>
    obtain ⟨i, rfl⟩ : ∃ i, dx = .int i := by cases dx <;> first | exact ⟨_, rfl⟩ | (cases e; done)
    obtain ⟨j, rfl⟩ : ∃ j, dy = .int j := by cases dy <;> first | exact ⟨_, rfl⟩ | (cases e; done)
    cases r1; cases r2
    cases e
    exact op_ge pins s σ H _ _ v u Q I rx ry ⟨_, _, rfl, rfl, fin _ (.bl _) rfl⟩
  | eq =>
    replace e : (match eqH dx dy h with | some b => Rs.ok (D.bl (b)) h | none => .bad) = .ok d h' := e
    split at e
    · rename_i b eb
      cases e
      exact (eq_both I hr w r1 r2 rx ry eb).1 _ _ _ _ ⟨.bl b, H, I, rfl, fin _ (.bl _) rfl⟩
    · cases e
  | ne =>
    replace e : (match eqH dx dy h with | some b => Rs.ok (D.bl (!b)) h | none => .bad) = .ok d h' := e
    split at e
    · rename_i b eb
      cases e
      exact (eq_both I hr w r1 r2 rx ry eb).2 _ _ _ _ ⟨.bl (!b), H, I, rfl, fin _ (.bl _) rfl⟩
    · cases e
  | is =>
    obtain rfl : dy = .non := by cases dy <;> first | rfl | (cases e; done)
    cases r2
    cases e
    refine op_isN pins s σ H _ _ v u Q I rx ry ⟨rfl, fin _ ?_ rfl⟩
    cases r1 <;> exact .bl _
  | isnot =>
    obtain rfl : dy = .non := by cases dy <;> first | rfl | (cases e; done)
    cases r2
    cases e
    refine op_notN pins s σ H _ _ v u Q I rx ry ⟨rfl, fin _ ?_ rfl⟩
    cases r1 <;> exact .bl _
  | inn =>
    replace e : (match dctAt h dy with | some l => inK dx l false h | none => match seqD dy h with | some l => inD dx l false h | none => .bad) = .ok d h' := e
    split at e
    · rename_i l el
      obtain ⟨n, a, us, rfl, rfl, hn, ha, hu, hk, rv⟩ := dctAt_rel w r2 el
      unfold inK at e
      split at e
      · rename_i k ek
        cases e
        have := keyD_rel r1 ek
        subst this
        obtain ⟨kk, hr⟩ := hr
        have hun := hr.units
        cases ry
        refine d_in (by omega) I (DGet.k hu) rx fun s3 I3 => ⟨.bl _, H, I3, rfl, ?_⟩
        rw [isSome_rel hk rv]
        exact fin _ (.bl _) rfl
      · cases e
    · split at e
      · rename_i l el
        unfold inD at e
        split at e
        · rename_i hf
          cases e
          obtain ⟨p, vs, rfl, hq, q⟩ := seq_of w r2 el
          refine op_in_seq pins s σ H _ _ v u Q I rx ry ⟨p, vs, rfl, hq, r1.flat hf.1, q.flat hf.2, ?_⟩
          have z := RDs.anyF r1 hf.1 q hf.2
          show Q (.bl (if false = true then !inV x vs else inV x vs)) H
          rw [if_neg (by decide), z]
          exact fin _ (.bl _) rfl
        · cases e
      · cases e
  | notin =>
    replace e : (match dctAt h dy with | some l => inK dx l true h | none => match seqD dy h with | some l => inD dx l true h | none => .bad) = .ok d h' := e
    split at e
    · rename_i l el
      obtain ⟨n, a, us, rfl, rfl, hn, ha, hu, hk, rv⟩ := dctAt_rel w r2 el
      unfold inK at e
      split at e
      · rename_i k ek
        cases e
        have := keyD_rel r1 ek
        subst this
        obtain ⟨kk, hr⟩ := hr
        have hun := hr.units
        cases ry
        refine d_notIn (by omega) I (DGet.k hu) rx fun s3 I3 => ⟨.bl _, H, I3, rfl, ?_⟩
        rw [isSome_rel hk rv]
        exact fin _ (by simpa using RD.bl (!(valD l k).isSome)) rfl
      · cases e
    · split at e
      · rename_i l el
        unfold inD at e
        split at e
        · rename_i hf
          cases e
          obtain ⟨p, vs, rfl, hq, q⟩ := seq_of w r2 el
          refine op_notIn_seq pins s σ H _ _ v u Q I rx ry ⟨p, vs, rfl, hq, r1.flat hf.1, q.flat hf.2, ?_⟩
          have z := RDs.anyF r1 hf.1 q hf.2
          show Q (.bl (if true = true then !inV x vs else inV x vs)) H
          rw [if_pos rfl, z]
          exact fin _ (by simpa using RD.bl _) rfl
        · cases e
      · cases e
theorem atI_rel {K : PySem.W.Frag} {m : List Addr} {H : Hp} {ds : List D} {vs : List V} {i : Int} {d : D} (q : RDs K m H ds vs) (e : atI ds i = some d) : ∃ v, atI vs i = some v ∧ RD K m H d v := by
  unfold atI at e ⊢
  rw [q.length] at e
  cases z : ixN vs.length i with
  | none => rw [z] at e; cases e
  | some j =>
    rw [z] at e
    obtain ⟨v, h1, h2⟩ := q.get (show ds[j]? = some d from e)
    exact ⟨v, h1, h2⟩
theorem ixSeqS : IxR X (rD X.K ixS) := by
  intro value slice pins s σ H x y v u Q I rx ry q hs
  obtain ⟨m, h, dx, dy, d, h', w, r1, r2, e, c⟩ := q
  unfold ixS at e
  split at e
  · rename_i l i el
    split at e
    · rename_i d' ed
      simp at e
      obtain ⟨rfl, rfl⟩ := e
      obtain ⟨p, vs, rfl, hq, q⟩ := seq_of w r1 el
      obtain ⟨z, hz, rz⟩ := atI_rel q ed
      cases r2
      have qz : Q z H := c m z H Gr.refl w rz
      rcases hq with hq | hq
      · exact ix_list value slice pins s σ H _ _ v u Q I rx ry ⟨p, vs, i, z, rfl, rfl, hq, hz, qz⟩ hs
      · exact ix_tup value slice pins s σ H _ _ v u Q I rx ry ⟨p, vs, i, z, rfl, rfl, hq, hz, qz⟩ hs
    · cases e
  · cases e
theorem ixSeq (hr : ∃ k, Room k X.A) : IxR X (rD X.K ixD) := by
  intro value slice pins s σ H x y v u Q I rx ry q hs
  obtain ⟨m, h, dx, dy, d, h', w, r1, r2, e, c⟩ := q
  unfold ixD at e
  split at e
  · rename_i z
    unfold ixT at e
    split at e <;> first | (cases e; done) | skip
    rename_i i
    split at e <;> first | (cases e; done) | skip
    rename_i hz
    split at e <;> first | (cases e; done) | skip
    rename_i c' ec
    simp at e
    obtain ⟨rfl, rfl⟩ := e
    cases r1; cases r2
    exact ix_str value slice pins s σ H _ _ v u Q I rx ry ⟨z, i, c', rfl, rfl, hz, ec, c m _ H Gr.refl w (.str _)⟩ hs
  split at e
  · rename_i l el
    obtain ⟨n, a, us, rfl, rfl, hn, ha, hu, hk, rv⟩ := dctAt_rel w r1 el
    unfold ixK at e
    split at e
    · rename_i k ek
      split at e
      · rename_i d' ed
        simp at e
        obtain ⟨rfl, rfl⟩ := e
        obtain ⟨z, hz, rz⟩ := valD_rel hk rv ed
        have := keyD_rel r2 ek
        subst this
        obtain ⟨kk, hr⟩ := hr
        have hun := hr.units
        cases rx
        have g : DGet H a (kV k) (some z) := by rw [← hz]; exact DGet.k hu
        exact tail_any (dict_typeIs I g) PySem.F.slot_dict_getitem.lookup (d_getItem (by omega) I g ry fun w' s3 I3 rw' => ⟨z, H, I3, rw', c m z H Gr.refl w rz⟩) hs
      · cases e
    · cases e
  · exact ixSeqS value slice pins s σ H x y v u Q I rx ry ⟨m, h, dx, dy, d, h', w, r1, r2, e, c⟩ hs
theorem isEmpty_rel {K : PySem.W.Frag} {m : List Addr} {H : Hp} {ds : List D} {vs : List V} (q : RDs K m H ds vs) : ds.isEmpty = vs.isEmpty := by
  cases q <;> rfl
theorem truRel {K : PySem.W.Frag} {m : List Addr} {h : Hh} {H : Hp} (w : Wd K m h H) {d : D} {v : V} {b : Bool} (r : RD K m H d v) (e : truD d h = some b) : TruV K v H b := by
  cases r with
  | non => exact (Option.some.inj e).symm
  | bl c => exact (Option.some.inj e).symm
  | int i => exact (Option.some.inj e).symm
  | str y =>
    simp only [truD] at e
    split at e
    · rename_i hz
      exact ⟨hz, (Option.some.inj e).symm⟩
    · cases e
  | ty n => cases e
  | tup h1 q =>
    refine .inr (.inl ⟨_, h1, ?_⟩)
    have := (Option.some.inj e).symm
    rw [this, isEmpty_rel q]
  | ref ha =>
    simp only [truD] at e
    split at e
    · rename_i l el
      obtain ⟨a', vs, ha', hq, q⟩ := w.lst el
      rw [ha] at ha'; cases ha'
      refine .inl ⟨_, hq, ?_⟩
      have := (Option.some.inj e).symm
      rw [this, isEmpty_rel q]
    · cases e
end
end Ng
end
section
set_option Elab.async false
set_option linter.all false
set_option maxRecDepth 100000
set_option maxHeartbeats 4000000
set_option autoImplicit false
namespace Ng
open PySem PySem.Spec PyProof.Rows L2
end Ng
end
section
set_option Elab.async false
set_option linter.all false
set_option maxRecDepth 100000
set_option maxHeartbeats 4000000
set_option autoImplicit false
namespace Ng
open PySem PySem.Spec PyProof.Rows L2
def valI (l : List Int) (j : Nat) : Int := (l[j]?).getD 0
theorem valI_of {l : List Int} {its : List Value} (p : Vals (l.map V.int) its) {j : Nat} {v : Value} (hv : its.toArray[j]? = some v) : ∃ t, v = .int (valI l j) t := by
  have hv' : its[j]? = some v := by simpa using hv
  have hj : j < its.length := (List.getElem?_eq_some_iff.mp hv').1
  have hl := p.length
  rw [List.length_map] at hl
  have e : (l.map V.int)[j]? = some (.int l[j]) := by rw [List.getElem?_map, List.getElem?_eq_getElem (by omega)]; rfl
  obtain ⟨u, hu, r⟩ := p.get e
  rw [hv'] at hu; cases hu
  obtain ⟨t, rfl⟩ := r
  exact ⟨t, by simp [valI, List.getElem?_eq_getElem (show j < l.length by omega)]⟩
theorem listWalk {prog : Program} {w : World} {A : Around} {s : Shared} {a : Addr} {items : Array Value} (hh : A.handled = none) (hl : s.heap.IsList a items) :
    Walks prog w A s.heap.objs.size [s.heap.objs.size, a] [s.heap.objs.size] items.size (fun i v => items[i]? = some v) (fun i h => h.IsListIter s.heap.objs.size a i ∧ h.IsList a items) ∧
    ((s.heap.push { cls := .type "list_iterator", data := .fields #[.ref a, .int 0 0] }).IsListIter s.heap.objs.size a 0 ∧ (s.heap.push { cls := .type "list_iterator", data := .fields #[.ref a, .int 0 0] }).IsList a items) ∧
    (∀ b ∈ [s.heap.objs.size, a], b < (s.heap.push { cls := .type "list_iterator", data := .fields #[.ref a, .int 0 0] }).objs.size) ∧
    ∀ g : Heap, (∀ b o, b ∉ [s.heap.objs.size] → (s.heap.push { cls := .type "list_iterator", data := .fields #[.ref a, .int 0 0] }).get? b = some o → g.get? b = some o) → ∀ b o, s.heap.get? b = some o → g.get? b = some o := by
  have lt : a < s.heap.objs.size := by obtain ⟨_, e, _⟩ := hl; exact Heap.lt_size e
  refine ⟨Walks.list hh _ a (Nat.ne_of_lt lt) items, ⟨⟨_, Heap.get?_push_size _ rfl, rfl, rfl⟩, hl.push _⟩, fun b hb => ?_, fun g kp b o e => kp b o (fun z => ?_) (Heap.get?_push_of_some _ e)⟩
  · rw [Heap.size_push]
    simp at hb
    rcases hb with rfl | rfl
    · exact Nat.lt_succ_self _
    · exact Nat.lt_succ_of_lt lt
  · simp at z
    subst z
    exact Nat.lt_irrefl _ (Heap.lt_size e)
section
variable {X : Cx}
theorem maxbest (i : Int) : ∀ (r : List Int) (k : Nat), k ≤ r.length → valI (i :: r) (argBest (fun a b => decide (valI (i :: r) a > valI (i :: r) b)) k) = maxI i (r.take k)
  | r, 0, _ => by simp [argBest, valI, maxI]
  | r, k + 1, hk => by
    have ih := maxbest i r k (by omega)
    have hk' : k < r.length := by omega
    have e1 : r.take (k + 1) = r.take k ++ [r[k]] := by rw [List.take_succ, List.getElem?_eq_getElem hk']; rfl
    have e2 : valI (i :: r) (k + 1) = r[k] := by simp [valI, List.getElem?_eq_getElem hk']
    have e3 : maxI i (r.take (k + 1)) = if r[k] > maxI i (r.take k) then r[k] else maxI i (r.take k) := by
      rw [e1]; unfold maxI; rw [List.foldl_append]; rfl
    rw [e3, ← ih]
    simp only [argBest]
    by_cases hb : valI (i :: r) (k + 1) > valI (i :: r) (argBest (fun a b => decide (valI (i :: r) a > valI (i :: r) b)) k)
    · rw [if_pos (decide_eq_true hb), if_pos (by rw [← e2]; exact hb), e2]
    · rw [if_neg (by rw [decide_eq_false hb]; exact Bool.false_ne_true), if_neg (by rw [← e2]; exact hb)]
theorem maxcall1 (hc : X.calm = true) {pins : List (Addr × Obj)} {s : Shared} {σ : Sg} {H : Hp} {a : Addr} {i : Int} {r : List Int} {Q : VK} (I : Inv X pins σ H s) (hq : SqL X.K H a ((i :: r).map V.int)) (q : Q (.int (maxI i r)) H) :
    wpAny (model X.prog X.w) X.A (call (.builtin "max") [.ref a]) (EP X pins σ Q) X.xe s := by
  obtain ⟨its, p1, t1, _⟩ := I.list hq
  refine call_max_walk (wpAny_pyIter_list t1.isList ?_)
  obtain ⟨h1, h2, h3, h4⟩ := listWalk (A := X.A.in1) (prog := X.prog) (w := X.w) (s := s) (I.ok.hd hc) t1.isList
  refine ⟨_, _, _, _, _, _, _, rfl, h1, h2, h3, ?_, CmpOf.ints_gt (valI (i :: r)) (fun j v hv => valI_of p1 hv), fun v g tk hv kp => ?_⟩
  · have := p1.length
    simp at this ⊢
    omega
  · obtain ⟨t, rfl⟩ := valI_of p1 hv
    have hl : its.toArray.size - 1 = r.length := by
      have := p1.length
      simp at this ⊢
      omega
    rw [hl, maxbest i r r.length (Nat.le_refl _), List.take_length]
    exact ⟨.int (maxI i r), H, I.kept (h4 g kp), ⟨t, rfl⟩, q⟩
theorem minbest (i : Int) : ∀ (r : List Int) (k : Nat), k ≤ r.length → valI (i :: r) (argBest (fun a b => decide (valI (i :: r) a < valI (i :: r) b)) k) = minI i (r.take k)
  | r, 0, _ => by simp [argBest, valI, minI]
  | r, k + 1, hk => by
    have ih := minbest i r k (by omega)
    have hk' : k < r.length := by omega
    have e1 : r.take (k + 1) = r.take k ++ [r[k]] := by rw [List.take_succ, List.getElem?_eq_getElem hk']; rfl
    have e2 : valI (i :: r) (k + 1) = r[k] := by simp [valI, List.getElem?_eq_getElem hk']
    have e3 : minI i (r.take (k + 1)) = if r[k] < minI i (r.take k) then r[k] else minI i (r.take k) := by
      rw [e1]; unfold minI; rw [List.foldl_append]; rfl
    rw [e3, ← ih]
    simp only [argBest]
    by_cases hb : valI (i :: r) (k + 1) < valI (i :: r) (argBest (fun a b => decide (valI (i :: r) a < valI (i :: r) b)) k)
    · rw [if_pos (decide_eq_true hb), if_pos (by rw [← e2]; exact hb), e2]
    · rw [if_neg (by rw [decide_eq_false hb]; exact Bool.false_ne_true), if_neg (by rw [← e2]; exact hb)]
theorem mincall1 (hc : X.calm = true) {pins : List (Addr × Obj)} {s : Shared} {σ : Sg} {H : Hp} {a : Addr} {i : Int} {r : List Int} {Q : VK} (I : Inv X pins σ H s) (hq : SqL X.K H a ((i :: r).map V.int)) (q : Q (.int (minI i r)) H) :
    wpAny (model X.prog X.w) X.A (call (.builtin "min") [.ref a]) (EP X pins σ Q) X.xe s := by
  obtain ⟨its, p1, t1, _⟩ := I.list hq
  refine call_min_walk (wpAny_pyIter_list t1.isList ?_)
  obtain ⟨h1, h2, h3, h4⟩ := listWalk (A := X.A.in1) (prog := X.prog) (w := X.w) (s := s) (I.ok.hd hc) t1.isList
  refine ⟨_, _, _, _, _, _, _, rfl, h1, h2, h3, ?_, CmpOf.ints_lt (valI (i :: r)) (fun j v hv => valI_of p1 hv), fun v g tk hv kp => ?_⟩
  · have := p1.length
    simp at this ⊢
    omega
  · obtain ⟨t, rfl⟩ := valI_of p1 hv
    have hl : its.toArray.size - 1 = r.length := by
      have := p1.length
      simp at this ⊢
      omega
    rw [hl, minbest i r r.length (Nat.le_refl _), List.take_length]
    exact ⟨.int (minI i r), H, I.kept (h4 g kp), ⟨t, rfl⟩, q⟩
end
end Ng
end
section
set_option Elab.async false
set_option linter.all false
set_option maxRecDepth 100000
set_option maxHeartbeats 4000000
set_option autoImplicit false
namespace Ng
open PySem PySem.Spec PyProof.Rows L2
theorem minloopS {prog : Program} {w : World} {A : Around} {I : Addr} {fp wr : List Addr} {n : Nat} {P : Nat → Value → Prop} {St : Nat → Heap → Prop} (T : Walks prog w A.in1 I fp wr n P St) (bt : Nat → Nat → Bool) (S : Addr) (nS : S ∉ fp) (Ok : Shared → Prop)
    (okS : ∀ z g tk, Ok z → (∀ b o, b ∉ wr → b ≠ S → z.heap.get? b = some o → g.get? b = some o) → Ok { z with heap := g, toks := tk })
    (cmp : ∀ j vi vj z (Q E : Value → Shared → Prop), j + 1 < n → Ok z → P (j + 1) vi → P (argBest bt j) vj → Q (.bool (bt (j + 1) (argBest bt j))) z → wpAny (model prog w) A.in1 (richCompare .Lt vi vj) Q E z) {R : Result → Shared → Prop} :
    ∀ (left j : Nat) (z : Shared) (best : Value) (cc : Nat), Ok z → n - (j + 1) = left → j + 1 ≤ n → St (j + 1) z.heap → P (argBest bt j) best → z.heap.get? S = some (seqObj "list" #[best, best] cc) →
      (∀ v g tk, P (argBest bt (n - 1)) v → (∀ b o, b ∉ wr → b ≠ S → z.heap.get? b = some o → g.get? b = some o) → R (.ok (.ret v)) { z with heap := g, toks := tk }) →
      codeAny (model prog w) A (.builtin "min.loop" ⟨[.ref I, .none, .ref S], []⟩) R z := by
  have nSw : S ∉ wr := fun q => nS (T.sub _ q)
  have nmL : (toString "min" ++ toString ".loop" : String) = "min.loop" := rfl
  intro left
  induction left with
  | zero =>
    intro j z best cc _ e1 e2 st pb hS fin
    have en : n = j + 1 := by omega
    refine codeAny_builtin F.entry_min_loop ?_
    rw [Around.under_plainId F.plain_min_loop _]
    show wpAny _ _ (seqItems? (Value.ref S) >>= _) _ _ z
    refine wpAny_bind (wpAny_seqItems hS rfl ?_)
    show wpAny _ _ (tryCatch (pyNext (Value.ref I)) _ >>= _) _ _ z
    refine wpAny_bind (wpAny_tryCatch (T.done z _ _ (en ▸ st) fun g tk kp => ?_))
    have hS2 := kp S _ nSw hS
    show wpAny _ _ (updateSeq S (fun _ => #[]) >>= _) _ _ _
    refine wpAny_bind (wpAny_updateSeq hS2 rfl (wpAny_bind (wpAny_letGo (wpAny_pure (fin best _ tk ?_ ?_)))))
    · rw [en]; exact pb
    · exact fun b o b1 b2 e => (Heap.get?_update_other _ _ (fun q => b2 q.symm)).trans (kp b o b1 e)
  | succ left ih =>
    intro j z best cc ok e1 e2 st pb hS fin
    refine codeAny_builtin F.entry_min_loop ?_
    rw [Around.under_plainId F.plain_min_loop _]
    show wpAny _ _ (seqItems? (Value.ref S) >>= _) _ _ z
    refine wpAny_bind (wpAny_seqItems hS rfl ?_)
    show wpAny _ _ (tryCatch (pyNext (Value.ref I)) _ >>= _) _ _ z
    refine wpAny_bind (wpAny_tryCatch (T.item (j + 1) z _ _ (by omega) st fun v g tk pv st2 kp => ?_))
    have ok2 := okS z g tk ok fun b o b1 _ e => kp b o b1 e
    have hS2 := kp S _ nSw hS
    show wpAny _ _ (tryCatch (holding [v, v] (richCompare .Lt v best >>= _)) _ >>= _) _ _ _
    refine wpAny_bind (wpAny_tryCatch (wpAny_holding (wpAny_bind (cmp j v best _ _ _ (by omega) ok2 pv pb (wpAny_bind (wpAny_holding (wpAny_truthy_bool (wpAny_bind (wpAny_letGo (wpAny_pure ?_))))))))))
    by_cases hb : bt (j + 1) (argBest bt j) = true
    · have pa : argBest bt (j + 1) = j + 1 := by simp only [argBest]; rw [if_pos hb]
      rw [hb]
      simp only [if_true]
      refine wpAny_bind (wpAny_updateSeq hS2 rfl (wpAny_bind (wpAny_letGo ?_)))
      rw [nmL]
      refine wpAny_pure ⟨plainId_quiet F.plain_min_loop _, ih (j + 1) _ v _ (okS z _ tk ok fun b o b1 b2 e => (Heap.get?_update_other _ _ (fun q => b2 q.symm)).trans (kp b o b1 e)) (by omega) (by omega) (T.frame _ _ _ st2 fun b hbf o e => ?_) (by rw [pa]; exact pv) (Heap.get?_update_self _ hS2 rfl) fun u g2 tk2 pu kp2 => fin u g2 tk2 pu fun b o b1 b2 e => kp2 b o b1 b2 ?_⟩
      · exact (Heap.get?_update_other _ _ (fun q : S = b => nS (q ▸ hbf))).trans e
      · exact (Heap.get?_update_other _ _ (fun q => b2 q.symm)).trans (kp b o b1 e)
    · have pa : argBest bt (j + 1) = argBest bt j := by simp only [argBest]; rw [if_neg hb]
      have hb' : bt (j + 1) (argBest bt j) = false := by simpa using hb
      rw [hb']
      simp only [Bool.false_eq_true, if_false]
      refine wpAny_bind (wpAny_letGo ?_)
      rw [nmL]
      exact wpAny_pure ⟨plainId_quiet F.plain_min_loop _, ih (j + 1) _ best cc ok2 (by omega) (by omega) st2 (by rw [pa]; exact pb) hS2 fun u g2 tk2 pu kp2 => fin u g2 tk2 pu fun b o b1 b2 e => kp2 b o b1 b2 (kp b o b1 e)⟩
theorem callminS {prog : Program} {w : World} {A : Around} {x : Value} {s : Shared} {Q : Value → Shared → Prop} {E : Value → Shared → Prop}
    (h : wpAny (model prog w) A.in1 (pyIter x) (fun it z => ∃ I fp wr n P St bt, ∃ Ok : Shared → Prop, it = .ref I ∧ Walks prog w A.in1 I fp wr n P St ∧ St 0 z.heap ∧ (∀ b ∈ fp, b < z.heap.objs.size) ∧ 0 < n ∧
      (∀ g tk, (∀ b o, b ∉ wr → z.heap.get? b = some o → g.get? b = some o) → Ok { z with heap := g, toks := tk }) ∧
      (∀ j vi vj z (Q E : Value → Shared → Prop), j + 1 < n → Ok z → P (j + 1) vi → P (argBest bt j) vj → Q (.bool (bt (j + 1) (argBest bt j))) z → wpAny (model prog w) A.in1 (richCompare .Lt vi vj) Q E z) ∧
      (∀ v g tk, P (argBest bt (n - 1)) v → (∀ b o, b ∉ wr → z.heap.get? b = some o → g.get? b = some o) → Q v { z with heap := g, toks := tk })) E s) :
    wpAny (model prog w) A (call (.builtin "min") [x]) Q E s := by
  have nmL : (toString "min" ++ toString ".loop" : String) = "min.loop" := rfl
  refine call_function_tree F.kind_min F.plain_min F.entry_min (F.args_min1 _) ?_
  show wpAny _ _ (Builtin.Builtins.bindParams "min" ["key", "default"] 0 ⟨[], []⟩ >>= _) _ _ s
  have eb : Builtin.Builtins.bindParams "min" ["key", "default"] 0 ⟨[], []⟩ = pure [none, none] := rfl
  refine wpAny_bind (wpAny_of_eq eb (wpAny_bind (wpAny_pure (wpAny_bind (wpAny_mono h (fun it z hz => ?_) fun _ _ q => q)))))
  obtain ⟨I, fp, wr, n, P, St, bt, Ok, rfl, T, st, lt, hn, ok0, cmp, f1⟩ := hz
  refine wpAny_bind (wpAny_newList ?_ (Nat.zero_le _))
  have nS : z.heap.objs.size ∉ fp := fun q => Nat.lt_irrefl _ (lt _ q)
  have nSw : z.heap.objs.size ∉ wr := fun q => nS (T.sub _ q)
  rw [nmL]
  refine wpAny_pure ⟨plainId_quiet F.plain_min_loop _, codeAny_builtin F.entry_min_loop ?_⟩
  rw [Around.under_plainId F.plain_min_loop _]
  have hS : (z.heap.push (seqObj "list" #[] 0)).get? z.heap.objs.size = some (seqObj "list" #[] 0) := Heap.get?_push_size _ rfl
  have st1 : St 0 (z.heap.push (seqObj "list" #[] 0)) := T.frame _ _ _ st fun b _ o e => Heap.get?_push_of_some _ e
  show wpAny _ _ (seqItems? (Value.ref z.heap.objs.size) >>= _) _ _ _
  refine wpAny_bind (wpAny_seqItems hS rfl ?_)
  show wpAny _ _ (tryCatch (pyNext (Value.ref I)) _ >>= _) _ _ _
  have old : ∀ (g : Heap), (∀ b o, b ∉ wr → b ≠ z.heap.objs.size → (z.heap.push (seqObj "list" #[] 0)).get? b = some o → g.get? b = some o) → ∀ b o, b ∉ wr → z.heap.get? b = some o → g.get? b = some o :=
    fun g k b o b1 e => k b o b1 (Nat.ne_of_lt (Heap.lt_size e)) (Heap.get?_push_of_some _ e)
  refine wpAny_bind (wpAny_tryCatch (T.item 0 _ _ _ (by omega) st1 fun v g tk pv st2 kp => ?_))
  have hS2 := kp _ _ nSw hS
  show wpAny _ _ (updateSeq z.heap.objs.size (fun _ => #[v, v]) >>= _) _ _ _
  refine wpAny_bind (wpAny_updateSeq hS2 rfl ?_)
  rw [nmL]
  have kp0 : ∀ b o, b ∉ wr → b ≠ z.heap.objs.size → (z.heap.push (seqObj "list" #[] 0)).get? b = some o → (g.update z.heap.objs.size (Obj.mapSeq fun _ => #[v, v])).get? b = some o := fun b o b1 b2 e => (Heap.get?_update_other _ _ (fun q => b2 q.symm)).trans (kp b o b1 e)
  refine wpAny_pure ⟨plainId_quiet F.plain_min_loop _, minloopS T bt z.heap.objs.size nS (fun y => ∃ g tk, y = { z with heap := g, toks := tk } ∧ ∀ b o, b ∉ wr → b ≠ z.heap.objs.size → (z.heap.push (seqObj "list" #[] 0)).get? b = some o → g.get? b = some o)
    (fun y g tk ⟨g1, tk1, e1, k1⟩ k2 => ⟨g, tk, by rw [e1], fun b o b1 b2 e => k2 b o b1 b2 (by rw [e1]; exact k1 b o b1 b2 e)⟩) (fun j vi vj y Q E hj ⟨g1, tk1, e1, k1⟩ p1 p2 q => cmp j vi vj y Q E hj (by rw [e1]; exact ok0 _ _ (old g1 k1)) p1 p2 q) _ 0 _ v _ ⟨_, _, rfl, kp0⟩ rfl (by omega) (T.frame _ _ _ st2 fun b hbf o e => ?_) pv (Heap.get?_update_self _ hS2 rfl) fun u g2 tk2 pu kp2 => ?_⟩
  · exact (Heap.get?_update_other _ _ (fun q : z.heap.objs.size = b => nS (q ▸ hbf))).trans e
  · exact f1 u g2 tk2 pu (old g2 fun b o b1 b2 e => kp2 b o b1 b2 (kp0 b o b1 b2 e))
inductive FL : List Value → List Value → Bool → Prop where
  | nn : FL [] [] false
  | nc {v : Value} {vs : List Value} : FL [] (v :: vs) true
  | cn {v : Value} {vs : List Value} : FL (v :: vs) [] false
  | eq {u v : Value} {us vs : List Value} {b : Bool} (h : ∀ A s, SeqAt.EqAt A s u v true) (r : FL us vs b) : FL (u :: us) (v :: vs) b
  | ne {u v : Value} {us vs : List Value} {b : Bool} (h : ∀ A s, SeqAt.EqAt A s u v false) (r : ∀ (A : Around) (s : Shared) (prog : Program) (w : World) (E Q : Value → Shared → Prop), Q (.bool b) s → wpAny (model prog w) A (richCompare .Lt u v) Q E s) : FL (u :: us) (v :: vs) b
section
open PySem.SeqAt
open PySem.AutoSeq1 (wpAny_loadPart')
open PySem.MeetsSeq PySem.MeetsSeq2 PySem.MeetsSeq3
theorem tup_lt (l b : Addr) (items items2 : Array Value) (n n2 : Nat) (dd dd2 : Option Addr) (sl sl2 : Array (Option Value)) {k : Bool} (hf : FL items.toList items2.toList k) :
    Meets (Builtin.«tuple.__lt__» ⟨[.ref l, .ref b], []⟩)
      (fun _ R s => s.heap.get? l = some { cls := .type "tuple", dict := dd, data := .seq items n, slots := sl } ∧ s.heap.get? b = some { cls := .type "tuple", dict := dd2, data := .seq items2 n2, slots := sl2 } ∧ R (.ok (.ret (.bool k))) s) :=
  .of_wp fun prog w A R s h => by
    obtain ⟨hp, g, d, tk, os⟩ := s; obtain ⟨hl, hb, h⟩ := h
    have f2 := AutoSeq1.sub_tuple_tuple
    wp_walk using wpAny_loadPart' hl, wpAny_loadPart' hb, wpAny_forIn_list _ (fun rest b s' => b.1 = none ∧ s' = ⟨hp, g, d, tk, os⟩ ∧ ∃ (vs ws : List Value), rest = vs.zip ws ∧ FL vs ws k ∧ vs.length + items2.size = ws.length + items.size) _
    case turn =>
      rintro ⟨y, x⟩ rest b s' ⟨hb', rfl, vs, ws, hz, hfl, hlen⟩
      cases hfl with
      | nn => cases hz
      | nc => cases hz
      | cn => cases hz
      | eq he r =>
        rw [List.zip_cons_cons] at hz
        injection hz with hyx hrest
        injection hyx with hy hx
        subst hy hx
        simp only [List.length_cons] at hlen
        refine wpAny_bind (he A.in1 ⟨hp, g, d, tk, os⟩ prog w _ _ ?_)
        wp_walk
        exact ⟨rfl, rfl, _, _, hrest, r, by omega⟩
      | ne he r =>
        rw [List.zip_cons_cons] at hz
        injection hz with hyx hrest
        injection hyx with hy hx
        subst hy hx
        refine wpAny_bind (he A.in1 ⟨hp, g, d, tk, os⟩ prog w _ _ ?_)
        have hri := fun E Q hq => r A.in1 ⟨hp, g, d, tk, os⟩ prog w E Q hq
        wp_walk using hri
        exact ⟨_, rfl, by simpa using h⟩
    case fin =>
      rintro ⟨b1, b2⟩ s' ⟨hb', rfl, vs, ws, hz, hfl, hlen⟩
      simp only at hb'
      subst hb'
      have hv : k = decide (items.size < items2.size) := by
        cases hfl with
        | nn => simp only [List.length_nil] at hlen; exact (decide_eq_false (by omega)).symm
        | nc => simp only [List.length_nil, List.length_cons] at hlen; exact (decide_eq_true (by omega)).symm
        | cn => simp only [List.length_nil, List.length_cons] at hlen; exact (decide_eq_false (by omega)).symm
        | eq he r => cases hz
        | ne he r => cases hz
      rw [hv] at h
      wp_walk
      exact ⟨_, rfl, by simpa [Builtin.Tuple.tupleCompareSizes] using h⟩
    case h =>
      exact ⟨rfl, rfl, items.toList, items2.toList, rfl, hf, by simp; omega⟩
inductive LL (A : Around) (s : Shared) : List Value → List Value → Bool → Prop where
  | nn : LL A s [] [] false
  | nc {v : Value} {vs : List Value} : LL A s [] (v :: vs) true
  | cn {v : Value} {vs : List Value} : LL A s (v :: vs) [] false
  | eq {u v : Value} {us vs : List Value} {b : Bool} (h : SeqAt.EqAt A s u v true) (r : LL A s us vs b) : LL A s (u :: us) (v :: vs) b
  | ne {u v : Value} {us vs : List Value} {b : Bool} (h : SeqAt.EqAt A s u v false) (r : ∀ (prog : Program) (w : World) (E Q : Value → Shared → Prop), Q (.bool b) s → wpAny (model prog w) A (richCompare .Lt u v) Q E s) : LL A s (u :: us) (v :: vs) b
theorem lt_loop (l b : Addr) (items items2 : Array Value) (n n2 : Nat) (dd dd2 : Option Addr) (sl sl2 : Array (Option Value)) {k : Bool} : ∀ (m i : Nat), items.size - i = m →
    Meets (Builtin.«list.__eq__.loop» ⟨[.ref l, .ref b, rawInt i, rawInt 0], []⟩)
      (fun A R s => s.heap.get? l = some { cls := .type "list", dict := dd, data := .seq items n, slots := sl } ∧ s.heap.get? b = some { cls := .type "list", dict := dd2, data := .seq items2 n2, slots := sl2 } ∧
        i ≤ items.size ∧ i ≤ items2.size ∧ LL A.in1 s (items.toList.drop i) (items2.toList.drop i) k ∧ R (.ok (.ret (.bool k))) s) := by
  intro m
  induction m with
  | zero =>
    intro i hk prog w A R s h
    obtain ⟨hp, g, d, tk, os⟩ := s; obtain ⟨hl, hb, z1, z2, hf, h⟩ := h
    wp_walk using wpAny_loadPart' hl, wpAny_loadPart' hb
    have hi1 : items[((i : Nat) : Int).toNat]? = none := by simp; omega
    have hd : items.toList.drop i = [] := by simp; omega
    rw [hd] at hf
    rw [hi1]
    wp_walk using wpAny_loadPart' hl, wpAny_loadPart' hb
    show R (.ok (.ret (.bool (decide (items.size < items2.size))))) _
    have e : k = decide (items.size < items2.size) := by
      generalize hq : items2.toList.drop i = q at hf
      cases hf with
      | nn =>
        have : items2.toList.length ≤ i := List.drop_eq_nil_iff.mp hq
        rw [Array.length_toList] at this
        exact (decide_eq_false (by omega)).symm
      | nc =>
        have : i < items2.toList.length := by
          rcases Nat.lt_or_ge i items2.toList.length with z | z
          · exact z
          · rw [List.drop_eq_nil_of_le z] at hq; cases hq
        rw [Array.length_toList] at this
        exact (decide_eq_true (by omega)).symm
    rw [← e]; exact h
  | succ m ih =>
    intro i hk prog w A R s h
    obtain ⟨hp, g, d, tk, os⟩ := s; obtain ⟨hl, hb, z1, z2, hf, h⟩ := h
    have lt : i < items.size := by omega
    have d1 : items.toList.drop i = items[i] :: items.toList.drop (i + 1) := by rw [List.drop_eq_getElem_cons (by simpa using lt)]; simp
    have hi1 : items[((i : Nat) : Int).toNat]? = some items[i] := by simp [lt]
    have hc : ((i : Int) + 1) = ((i + 1 : Nat) : Int) := by push_cast; rfl
    wp_walk using wpAny_loadPart' hl, wpAny_loadPart' hb
    rw [hi1]
    by_cases lt2 : i < items2.size
    · have d2 : items2.toList.drop i = items2[i] :: items2.toList.drop (i + 1) := by rw [List.drop_eq_getElem_cons (by simpa using lt2)]; simp
      have hi2 : items2[((i : Nat) : Int).toNat]? = some items2[i] := by simp [lt2]
      rw [d1, d2] at hf
      rw [hi2]
      cases hf with
      | eq he r =>
        refine wpAny_bind (he prog w _ _ ?_)
        wp_walk
        rw [hc]
        exact ⟨plainId_quiet plain_eq_loop _, codeAny_builtin entry_eq_loop (by
          rw [Around.under_plainId plain_eq_loop _]
          exact ih (i + 1) (by omega) prog w A R _ ⟨hl, hb, by omega, by omega, r, h⟩)⟩
      | ne he r =>
        refine wpAny_bind (he prog w _ _ ?_)
        have hri := fun E Q hq => r prog w E Q hq
        wp_walk using wpAny_loadPart' hl, wpAny_loadPart' hb
        rw [hi1, hi2]
        wp_walk using hri
        exact h
    · have hi2 : items2[((i : Nat) : Int).toNat]? = none := by simp; omega
      have d2 : items2.toList.drop i = [] := by simp; omega
      rw [d1, d2] at hf
      cases hf
      rw [hi2]
      wp_walk using wpAny_loadPart' hl, wpAny_loadPart' hb
      show R (.ok (.ret (.bool (decide (items.size < items2.size))))) _
      rw [decide_eq_false (by omega)]
      exact h
theorem lst_lt (l b : Addr) (items items2 : Array Value) (n n2 : Nat) (dd dd2 : Option Addr) (sl sl2 : Array (Option Value)) {k : Bool} :
    Meets (Builtin.«list.__lt__» ⟨[.ref l, .ref b], []⟩)
      (fun A R s => s.heap.get? l = some { cls := .type "list", dict := dd, data := .seq items n, slots := sl } ∧ s.heap.get? b = some { cls := .type "list", dict := dd2, data := .seq items2 n2, slots := sl2 } ∧ LL A.in1 s items.toList items2.toList k ∧ R (.ok (.ret (.bool k))) s) := by
  intro prog w A R s h
  obtain ⟨hp, g, d, tk, os⟩ := s; obtain ⟨hl, hb, hf, h⟩ := h
  have f3 := AutoSeq1.sub_list_list
  wp_walk using wpAny_loadPart' hl, wpAny_loadPart' hb
  exact ⟨plainId_quiet plain_eq_loop _, codeAny_builtin entry_eq_loop (by
    rw [Around.under_plainId plain_eq_loop _]
    exact lt_loop l b items items2 n n2 dd dd2 sl sl2 _ 0 rfl prog w A R _ ⟨hl, hb, Nat.zero_le _, Nat.zero_le _, by simpa using hf, h⟩)⟩
end
theorem fl_of {K : PySem.W.Frag} {m : List Addr} {H : Hp} : ∀ {ds ds' : List D} {vs vs' : List V} {us us' : List Value} {k : Bool}, RDs K m H ds vs → RDs K m H ds' vs' → Vals vs us → Vals vs' us' → ltF ds ds' = some k → FL us us' k
  | [], [], _, _, _, _, k, q1, q2, p1, p2, e => by
    cases q1; cases q2; cases p1; cases p2; cases e; exact .nn
  | [], _ :: _, _, _, _, _, k, q1, q2, p1, p2, e => by
    cases q1; cases q2; cases p1; cases p2; cases e; exact .nc
  | _ :: _, [], _, _, _, _, k, q1, q2, p1, p2, e => by
    cases q1; cases q2; cases p1; cases p2
    have : k = false := by simpa [ltF] using e.symm
    subst this; exact .cn
  | x :: xs, y :: ys, _, _, _, _, k, q1, q2, p1, p2, e => by
    cases q1 with
    | cons r1 q1 =>
      cases q2 with
      | cons r2 q2 =>
        cases p1 with
        | cons s1 p1 =>
          cases p2 with
          | cons s2 p2 =>
            cases r1 <;> cases r2 <;> first | (simp [ltF] at e; done) | skip
            · rename_i a b
              obtain ⟨t, rfl⟩ := s1
              obtain ⟨t', rfl⟩ := s2
              simp only [ltF] at e
              split at e
              · rename_i z
                subst z
                exact .eq (fun A s => by simpa using SeqAt.EqAt.int_int (A := A) (s := s) a t a t') (fl_of q1 q2 p1 p2 e)
              · rename_i z
                have e' := Option.some.inj e
                refine .ne (fun A s => by have y := SeqAt.EqAt.int_int (A := A) (s := s) a t b t'; rw [beq_eq_false_iff_ne.mpr z] at y; exact y) fun A s prog w E Q hq => ?_
                subst e'
                exact (PyProof.Rows.lt_int hq : wpAny (model prog w) A (compareOp .Lt (.int a t) (.int b t')) Q E s)
            · rename_i a b
              obtain ⟨t, rfl⟩ := s1
              obtain ⟨t', rfl⟩ := s2
              simp only [ltF] at e
              split at e
              · rename_i z
                subst z
                exact .eq (fun A s => by simpa using SeqAt.EqAt.str_str (A := A) (s := s) a t a t') (fl_of q1 q2 p1 p2 e)
              · rename_i z
                have e' := Option.some.inj e
                refine .ne (fun A s => by have y := SeqAt.EqAt.str_str (A := A) (s := s) a t b t'; rw [beq_eq_false_iff_ne.mpr z] at y; exact y) fun A s prog w E Q hq => ?_
                subst e'
                exact (PyProof.Rows.lt_str hq : wpAny (model prog w) A (compareOp .Lt (.str a t) (.str b t')) Q E s)
section
variable {X : Cx} {pins : List (Addr × Obj)} {σ : Sg} {H : Hp} {s : Shared} {m : List Addr}
theorem ll_of (I : Inv X pins σ H s) {A : Around} (hu : A.units + 21 < cLine) : ∀ {ds ds' : List D} {vs vs' : List V} {us us' : List Value} {k : Bool}, RDs X.K m H ds vs → RDs X.K m H ds' vs' → Vals vs us → Vals vs' us' → ltR ds ds' = some k → LL A s us us' k
  | [], [], _, _, _, _, k, q1, q2, p1, p2, e => by
    cases q1; cases q2; cases p1; cases p2; cases e; exact .nn
  | [], _ :: _, _, _, _, _, k, q1, q2, p1, p2, e => by
    cases q1; cases q2; cases p1; cases p2; cases e; exact .nc
  | _ :: _, [], _, _, _, _, k, q1, q2, p1, p2, e => by
    cases q1; cases q2; cases p1; cases p2
    have : k = false := by simpa [ltR] using e.symm
    subst this; exact .cn
  | x :: xs, y :: ys, _, _, _, _, k, q1, q2, p1, p2, e => by
    cases q1 with
    | cons r1 q1 =>
      cases q2 with
      | cons r2 q2 =>
        cases p1 with
        | cons s1 p1 =>
          cases p2 with
          | cons s2 p2 =>
            simp only [ltR] at e
            split at e
            · rename_i z
              exact .eq (eqAt_D I 20 (by omega) r1 r2 s1 s2 z) (ll_of I hu q1 q2 p1 p2 e)
            · rename_i z
              refine .ne (eqAt_D I 20 (by omega) r1 r2 s1 s2 z) fun prog w E Q hq => ?_
              cases r1 <;> cases r2 <;> first | (cases e; done) | skip
              rename_i a ds vs h1 t1 a' ds' vs' h2 t2
              cases s1; cases s2
              obtain ⟨us1, v1, c1, _⟩ := I.tuple h1
              obtain ⟨us2, v2, c2, _⟩ := I.tuple h2
              obtain ⟨⟨cls, dd, data, sl⟩, ho, hc, n, hd⟩ := id c1
              obtain ⟨⟨cls2, dd2, data2, sl2⟩, ho2, hc2, n2, hd2⟩ := id c2
              simp only at hc hd hc2 hd2
              subst hc hd hc2 hd2
              exact richCompare_meets_room (op := .Lt) ⟨_, ho, rfl⟩ ⟨_, ho2, rfl⟩ PySem.F.slot_tuple_lt PySem.F.entry_tuple_lt (PySem.F.args_tuple_lt_2 _ _) (tup_lt a a' us1.toArray us2.toArray n n2 dd dd2 sl sl2 (k := k) (by simpa using fl_of t1 t2 v1 v2 e))
                ⟨ho, ho2, show Value.bool k ≠ Value.notImplemented ∧ Q (.bool k) s from ⟨(fun x => nomatch x), hq⟩⟩ (by omega)
            · cases e
def refL (h : Hh) : Option D → List D
  | some (.ref c) => (lstAt h c).getD []
  | _ => []
def btR (h : Hh) (ds : List D) (i j : Nat) : Bool := (match ltR (refL h ds[i]?) (refL h ds[j]?) with | some true => true | _ => false)
theorem btR_eq (h : Hh) (ds : List D) (i j : Nat) : btR h ds i j = (match ltR (refL h ds[i]?) (refL h ds[j]?) with | some true => true | _ => false) := rfl
theorem minR_best {h : Hh} {k : Nat} {n : Nat} {r : List D} (e : minR h n r = some k) : ∀ j, j ≤ r.length → ∃ c, (D.ref n :: r)[argBest (btR h (.ref n :: r)) j]? = some (.ref c) ∧ minR h c (r.drop j) = some k
  | 0, _ => ⟨n, rfl, e⟩
  | j + 1, hj => by
    obtain ⟨c, h1, h2⟩ := minR_best e j (by omega)
    rw [List.drop_eq_getElem_cons (by omega)] at h2
    have hx : (D.ref n :: r)[j + 1]? = some r[j] := by simp [List.getElem?_eq_getElem (show j < r.length by omega)]
    generalize r[j] = x at h2 hx
    cases x <;> first | (simp [minR] at h2; done) | skip
    rename_i k'
    simp only [minR] at h2
    split at h2
    · rename_i a b ea eb
      have hb : btR h (.ref n :: r) (j + 1) (argBest (btR h (.ref n :: r)) j) = (match ltR a b with | some true => true | _ => false) := by
        rw [btR_eq, hx, h1]
        simp only [refL, ea, eb, Option.getD_some]
      split at h2
      · rename_i z
        rw [z] at hb
        refine ⟨k', ?_, h2⟩
        simp only [argBest, hb, if_true]
        exact hx
      · rename_i z
        rw [z] at hb
        refine ⟨c, ?_, h2⟩
        simp only [argBest, hb, Bool.false_eq_true, if_false]
        exact h1
      · cases h2
    · cases h2
theorem minR_cmp {h : Hh} {k : Nat} {n : Nat} {r : List D} (e : minR h n r = some k) {j : Nat} (hj : j + 1 < r.length + 1) : ∃ c c' a b, (D.ref n :: r)[j + 1]? = some (.ref c) ∧ (D.ref n :: r)[argBest (btR h (.ref n :: r)) j]? = some (.ref c') ∧ lstAt h c = some a ∧ lstAt h c' = some b ∧ ltR a b = some (btR h (.ref n :: r) (j + 1) (argBest (btR h (.ref n :: r)) j)) := by
  obtain ⟨c', h1, h2⟩ := minR_best e j (by omega)
  rw [List.drop_eq_getElem_cons (by omega)] at h2
  have hx : (D.ref n :: r)[j + 1]? = some r[j] := by simp [List.getElem?_eq_getElem (show j < r.length by omega)]
  generalize r[j] = x at h2 hx
  cases x <;> first | (simp [minR] at h2; done) | skip
  rename_i c
  simp only [minR] at h2
  split at h2
  · rename_i a b ea eb
    refine ⟨c, c', a, b, hx, h1, ea, eb, ?_⟩
    rw [btR_eq, hx, h1]
    simp only [refL, ea, eb, Option.getD_some]
    split at h2
    · rename_i z; rw [z]
    · rename_i z; rw [z]
    · cases h2
  · cases h2
theorem mincallR (hc : X.calm = true) (hr : ∃ k, Room k X.A) {h : Hh} (w : Wd X.K m h H) {a : Addr} {n k : Nat} {r : List D} {vs : List V} {Q : VK} (I : Inv X pins σ H s) (hq : SqL X.K H a vs) (q : RDs X.K m H (.ref n :: r) vs) (e : minR h n r = some k) (c : ∀ v, RD X.K m H (.ref k) v → Q v H) :
    wpAny (model X.prog X.w) X.A (call (.builtin "min") [.ref a]) (EP X pins σ Q) X.xe s := by
  obtain ⟨its, p1, t1, _⟩ := I.list hq
  obtain ⟨kr, hr⟩ := hr
  have hun := hr.units
  have l1 := q.length
  have l2 := p1.length
  have hsz : its.toArray.size = r.length + 1 := by simp at l1 ⊢; omega
  refine callminS (wpAny_pyIter_list t1.isList ?_)
  obtain ⟨h1, h2, h3, h4⟩ := listWalk (A := X.A.in1) (prog := X.prog) (w := X.w) (s := s) (I.ok.hd hc) t1.isList
  refine ⟨_, _, _, _, _, _, btR h (.ref n :: r), fun z => Inv X pins σ H z, rfl, h1, h2, h3, by omega, fun g tk kp => I.kept (h4 g kp), fun j vi vj z Q' E' hj Iz pi pj hQ => ?_, fun v g tk hv kp => ?_⟩
  · obtain ⟨c1, c2, la, lb, e1, e2, e3, e4, e5⟩ := minR_cmp e (j := j) (by omega)
    obtain ⟨x1, g1, r1⟩ := q.get e1
    obtain ⟨x2, g2, r2⟩ := q.get e2
    obtain ⟨u1, f1, s1⟩ := p1.get g1
    obtain ⟨u2, f2, s2⟩ := p1.get g2
    have y1 : u1 = vi := by simp at pi; rw [pi] at f1; exact (Option.some.inj f1).symm
    have y2 : u2 = vj := by simp at pj; rw [pj] at f2; exact (Option.some.inj f2).symm
    subst y1 y2
    cases r1 with
    | ref m1 =>
      cases r2 with
      | ref m2 =>
        cases s1; cases s2
        obtain ⟨a1, vs1, n1, q1, w1⟩ := w.lst e3
        obtain ⟨a2, vs2, n2, q2, w2⟩ := w.lst e4
        rw [m1] at n1; cases n1
        rw [m2] at n2; cases n2
        obtain ⟨us1, v1, c1, _⟩ := Iz.list q1
        obtain ⟨us2, v2, c2, _⟩ := Iz.list q2
        obtain ⟨⟨cls, dd, data, sl⟩, ho, hcl, nn, hd⟩ := c1.isList
        obtain ⟨⟨cls2, dd2, data2, sl2⟩, ho2, hcl2, nn2, hd2⟩ := c2.isList
        simp only at hcl hd hcl2 hd2
        subst hcl hd hcl2 hd2
        refine richCompare_meets_room (op := .Lt) ⟨_, ho, rfl⟩ ⟨_, ho2, rfl⟩ PySem.F.slot_list_lt PySem.F.entry_list_lt (PySem.F.args_list_lt_2 _ _) (lst_lt _ _ us1.toArray us2.toArray nn nn2 dd dd2 sl sl2 (k := btR h (.ref n :: r) (j + 1) (argBest (btR h (.ref n :: r)) j)))
          ⟨ho, ho2, ?_, show Value.bool _ ≠ Value.notImplemented ∧ Q' (.bool _) z from ⟨(fun x => nomatch x), hQ⟩⟩ (by show X.A.units + 1 < cLine; omega)
        have := ll_of Iz (A := X.A.in1.in1) (by show X.A.units + 2 + 21 < cLine; omega) w1 w2 v1 v2 e5
        simpa using this
  · obtain ⟨c1, e1, e2⟩ := minR_best e r.length (Nat.le_refl _)
    rw [List.drop_length] at e2
    have : c1 = k := by simpa [minR] using e2
    subst this
    rw [hsz] at hv
    obtain ⟨x1, g1, r1⟩ := q.get e1
    obtain ⟨u1, f1, s1⟩ := p1.get g1
    have y1 : u1 = v := by
      simp at hv
      rw [hv] at f1; exact (Option.some.inj f1).symm
    subst y1
    exact ⟨x1, H, I.kept (h4 g kp), s1, c x1 r1⟩
end
end Ng
end
section
set_option Elab.async false
set_option linter.all false
set_option maxRecDepth 100000
set_option maxHeartbeats 4000000
set_option autoImplicit false
namespace Ng
open PySem PySem.Spec PyProof.Rows L2
section
variable {prog : Program} {w : World} {A : Around} {E : Value → Shared → Prop} {s : Shared}
theorem lsort_few {a : Addr} {vs : List Value} {n : Nat} {P : PySem.Fin → Shared → Prop} (ho : s.heap.get? a = some (seqObj "list" vs.toArray n)) (h1 : vs.length < 2)
    (h : P (.done (.ret .none)) { s with heap := sortedHeap s.heap a vs vs.toArray }) : wpAny (model prog w) A (Builtin.«list.sort» ⟨[.ref a], []⟩) P E s := by
  have la := Heap.lt_size ho
  obtain ⟨e1, o1⟩ : ∃ e1, (s.heap.update a (Obj.mapSeq fun _ => #[])).get? a = some (seqObj "list" #[] e1) := ⟨_, get?_update_seq ho (fun _ => #[])⟩
  have o6 : (((s.heap.update a (Obj.mapSeq fun _ => #[])).push (seqObj "tuple" vs.toArray 0)).push (seqObj "list" #[] 0)).get? a = some (seqObj "list" #[] e1) :=
    Heap.get?_push_of_some _ (Heap.get?_push_of_some _ o1)
  have few : vs.toArray.size < 2 := by simpa using h1
  have zs : (vs.toArray.zip vs.toArray).map (·.2) = vs.toArray := by
    apply Array.toList_inj.mp
    simp [List.map_snd_zip]
  rw [list_sort_plain]
  refine wpAny_bind (listItems_at ho rfl (wpAny_bind (listUpdate_at ho rfl (wpAny_bind (seqEpoch_at o1 rfl (wpAny_bind (wpAny_newTuple (wpAny_bind (wpAny_newList (wpAny_holding ?_)))))))))) 
  show wpAny (model prog w) A _ P E { s with heap := ((s.heap.update a (Obj.mapSeq fun _ => #[])).push (seqObj "tuple" vs.toArray 0)).push (seqObj "list" #[] 0) }
  dsimp only
  rw [if_pos few, if_pos few]
  refine wpAny_bind (wpAny_pure ?_)
  rw [StateT.run_pure]
  refine wpAny_bind (wpAny_pure ?_)
  dsimp only
  refine wpAny_bind (seqEpoch_at o6 rfl (wpAny_bind (listUpdate_at o6 rfl ?_ (hsz2 := by
    show ((vs.toArray.zip vs.toArray).map (·.2)).size ≤ _
    rw [zs, sizeLine_eq, List.size_toArray]; omega))))
  simp only [bne_self_eq_false, Bool.false_eq_true, if_false]
  refine wpAny_pure ?_
  show P (.done (.ret .none)) { s with heap := _ }
  have z2 : (arrOf (SortSt.mk' general' (vs.toArray.zip vs.toArray) #[] 7 none)).map (·.2) = vs.toArray := zs
  rw [z2]
  exact h
theorem sorted_few {l : Addr} {vs : List Value} {Q : Value → Shared → Prop} (hl : s.heap.IsList l vs.toArray) (h1 : vs.length < 2)
    (h : Q (.ref (s.heap.objs.size + 1)) { s with heap := sortedAll s.heap vs vs.toArray }) : wpAny (model prog w) A (call (.builtin "sorted") [.ref l]) Q E s := by
  refine Calls.call_function_entry kind_sorted plain_sorted entry_sorted (args_sorted1 _) ?_
  have z1 : ((s.heap.push (seqObj "list" #[] 0)).update s.heap.objs.size (Obj.mapSeq (· ++ vs.toArray))).objs.size = s.heap.objs.size + 1 := by rw [Heap.size_update, size_push']
  have o1 : (((s.heap.push (seqObj "list" #[] 0)).update s.heap.objs.size (Obj.mapSeq (· ++ vs.toArray))).push (seqObj "list" vs.toArray 0)).get? (s.heap.objs.size + 1) = some (seqObj "list" vs.toArray 0) := z1 ▸ Heap.get?_push_size _ rfl
  unfold Builtin.«sorted»
  refine wpAny_bind (m := checkCount "sorted" 1 1 _) (wpAny_pure (wpAny_bind (collect_list hl (wpAny_bind (wpAny_newList ?_)))))
  show wpAny _ _ _ _ _ { s with heap := ((s.heap.push (seqObj "list" #[] 0)).update s.heap.objs.size (Obj.mapSeq (· ++ vs.toArray))).push (seqObj "list" vs.toArray 0) }
  rw [z1]
  exact wpAny_bind (wpAny_holding (wpAny_call_entry slot_list_sort ⟨_, o1, rfl⟩ entry_list_sort (lsort_few o1 h1 ⟨_, rfl, wpAny_pure ⟨_, rfl, h⟩⟩) (args_list_sort _)))
end
theorem isTup_keep {h h' : Heap} {L a : Addr} {xs : Array Value} {mm : Str → Option Value} (hn : h.Ns L mm) (k : ∀ b o, b ≠ L → h.get? b = some o → h'.get? b = some o) (t : IsTup h a xs) : IsTup h' a xs := by
  obtain ⟨o, h1, h2, n, h3⟩ := t
  refine ⟨o, k a o (fun z => ?_) h1, h2, n, h3⟩
  subst z
  obtain ⟨o', es, ep, g1, g2, _⟩ := hn
  rw [h1] at g1; cases g1
  rw [h3] at g2; cases g2
section
variable {X : Cx} {pins : List (Addr × Obj)} {σ : Sg} {H : Hp} {s : Shared} {m : List Addr} {K : PySem.W.Frag}
/-- a tuple's items, by the data -/
theorem tup_items (I : Inv X pins σ H s) {ds : List D} {v : V} {u : Value} (r : RD X.K m H (.tup ds) v) (rv : RelV v u) : ∃ a vs its, u = .ref a ∧ RDs X.K m H ds vs ∧ Vals vs its ∧ IsTup s.heap a its.toArray := by
  cases r with
  | tup h q =>
    cases rv
    obtain ⟨its, p, t, _⟩ := I.tuple h
    exact ⟨_, _, its, rfl, q, p, t⟩
theorem kat_flat {prog : Program} {w : World} {A : Around} {b fin : Bool} {Q : Bool → Shared → Prop} {t : Shared} (hb : b = true) : ∀ {xs ys : List D} {vs us : List V} {its jts : List Value} {i : Nat} {c : Bool}, RDs K m H xs vs → RDs K m H ys us → Vals vs its → Vals us jts → ltF xs ys = some c →
    ∀ (p q : Nat), p + its.length = q + jts.length → fin = decide (q < p) → Q c t → PySem.W.KatLex prog w A b fin Q (its.zip jts) i t := by
  intro xs
  induction xs with
  | nil =>
    intro ys vs us its jts i c hx hy hv hu e p q hpq hf h
    cases hx; cases hv
    cases hy with
    | nil =>
      cases hu
      have e' : false = c := Option.some.inj e
      subst e'
      show Q fin t
      rw [hf, decide_eq_false (by simp at hpq; omega)]
      exact h
    | cons r2 q2 =>
      cases hu
      have e' : true = c := Option.some.inj e
      subst e'
      show Q fin t
      rw [hf, decide_eq_true (by simp at hpq; omega)]
      exact h
  | cons x xs ih =>
    intro ys vs us its jts i c hx hy hv hu e p q hpq hf h
    cases hx with
    | cons r1 q1 =>
    cases hv with
    | cons s1 t1 =>
    cases hy with
    | nil =>
      cases hu
      have e' : false = c := by
        cases x <;> exact Option.some.inj e
      subst e'
      show Q fin t
      rw [hf, decide_eq_false (by simp at hpq; omega)]
      exact h
    | cons r2 q2 =>
    cases hu with
    | cons s2 t2 =>
      simp only [List.length_cons] at hpq
      cases r1 <;> cases r2 <;> first | (simp [ltF] at e; done) | skip
      · rename_i a a'
        obtain ⟨tk, rfl⟩ := s1
        obtain ⟨tk', rfl⟩ := s2
        simp only [ltF] at e
        refine PySem.W.kat_cons (wpAny_eqBool_int ?_)
        by_cases z : a = a'
        · rw [if_pos z] at e
          rw [show (a == a') = true by simp [z]]
          exact PySem.W.kat_yes (ih q1 q2 t1 t2 e p q (by omega) hf h)
        · rw [if_neg z] at e
          have e' := Option.some.inj e
          rw [show (a == a') = false by simp [z]]
          refine PySem.W.kat_no ?_
          subst e' hb
          by_cases hi : i = 0
          · subst hi
            exact oneLt_int h
          · rw [show ((true && i == 0) : Bool) = false by simp [hi]]
            exact PySem.W.kat_one _ _ (PyProof.Rows.lt_int h)
      · rename_i a a'
        obtain ⟨tk, rfl⟩ := s1
        obtain ⟨tk', rfl⟩ := s2
        simp only [ltF] at e
        refine PySem.W.kat_cons (wpAny_eqBool_str ?_)
        by_cases z : a = a'
        · rw [if_pos z] at e
          rw [decide_eq_true z]
          exact PySem.W.kat_yes (ih q1 q2 t1 t2 e p q (by omega) hf h)
        · rw [if_neg z] at e
          have e' := Option.some.inj e
          rw [decide_eq_false z]
          refine PySem.W.kat_no ?_
          subst e' hb
          by_cases hi : i = 0
          · subst hi
            exact oneLt_str h
          · rw [show ((true && i == 0) : Bool) = false by simp [hi]]
            exact PySem.W.kat_one _ _ (lt_str h)
theorem getD_of {α : Type} {l : List α} {i : Nat} {x d : α} (h : l[i]? = some x) : l.getD i d = x := by simp [List.getD_eq_getElem?_getD, h]
theorem RDs.pick {ds : List D} {vs : List V} (q : RDs K m H ds vs) : ∀ (p : List Nat), (∀ i ∈ p, i < ds.length) → RDs K m H (p.map fun i => ds.getD i .non) (p.map fun i => vs.getD i .non)
  | [], _ => .nil
  | i :: p, h => by
    have e := List.getElem?_eq_getElem (h i List.mem_cons_self)
    obtain ⟨v, hv, rv⟩ := q.get e
    refine .cons ?_ (RDs.pick q p fun j hj => h j (List.mem_cons_of_mem _ hj))
    show RD K m H (ds.getD i .non) (vs.getD i .non)
    rw [getD_of e, getD_of hv]
    exact rv
theorem vals_pick {vs : List V} {us : List Value} (q : Vals vs us) : ∀ (p : List Nat), (∀ i ∈ p, i < vs.length) → Vals (p.map fun i => vs.getD i .non) (p.map fun i => us.getD i Value.none)
  | [], _ => .nil
  | i :: p, h => by
    have e := List.getElem?_eq_getElem (h i List.mem_cons_self)
    obtain ⟨v, hv, rv⟩ := q.get e
    refine .cons ?_ (vals_pick q p fun j hj => h j (List.mem_cons_of_mem _ hj))
    show RelV (vs.getD i .non) (us.getD i Value.none)
    rw [getD_of e, getD_of hv]
    exact rv
/-- what is asked of two items -/
theorem ask_ok {prog : Program} {w : World} {A : Around} {s' : Shared} (I : Inv X pins σ H s) (kp : ∀ b o, b ≠ X.env.locals → s.heap.get? b = some o → s'.heap.get? b = some o) {k : Nat} {x y : D} {vx vy : V} {ux uy : Value} {c : Bool} {κ : SortKind} (hκ : κ = if k < 3 then oneType' else tuples' true)
    (kx : kdS x = k) (ky : kdS y = k) (k0 : k ≠ 0) (rx : RD X.K m H x vx) (ry : RD X.K m H y vy) (sx : RelV vx ux) (sy : RelV vy uy) (e : ltK x y = some c) {C : Bool → Shared → Prop} (h : C c s') :
    wpAny (model prog w) A (keyLt' κ ux uy) C (fun _ _ => False) s' := by
  obtain ⟨mm, hn, _⟩ := id I.loc
  have tup : ∀ {a b : List D}, x = .tup a → y = .tup b → ¬ k < 3 → wpAny (model prog w) A (keyLt' κ ux uy) C (fun _ _ => False) s' := fun {a b} ea eb h3 => by
    subst ea eb
    rw [if_neg h3] at hκ
    subst hκ
    obtain ⟨a1, vs, its, rfl, q1, p1, t1⟩ := tup_items I rx sx
    obtain ⟨a2, us, jts, rfl, q2, p2, t2⟩ := tup_items I ry sy
    obtain ⟨o1, g1, _, n1, d1⟩ := isTup_keep hn kp t1
    obtain ⟨o2, g2, _, n2, d2⟩ := isTup_keep hn kp t2
    exact PySem.W.kat_lt g1 d1 g2 d2 (kat_flat (K := X.K) rfl q1 q2 p1 p2 (by simpa [ltK] using e) jts.length its.length (by simp; omega) (by simp) h)
  cases x with
  | int a =>
    cases y with
    | int b =>
      have z : 1 = k := kx
      subst z
      rw [if_pos (by decide)] at hκ
      subst hκ
      cases rx; cases ry
      obtain ⟨t, rfl⟩ := sx
      obtain ⟨t', rfl⟩ := sy
      have e' := Option.some.inj e
      subst e'
      exact PySem.W.kat_lt_int h
    | _ => simp [ltK] at e
  | str a =>
    cases y with
    | str b =>
      have z : 2 = k := kx
      subst z
      rw [if_pos (by decide)] at hκ
      subst hκ
      cases rx; cases ry
      obtain ⟨t, rfl⟩ := sx
      obtain ⟨t', rfl⟩ := sy
      have e' := Option.some.inj e
      subst e'
      exact PySem.W.kas_lt_str h
    | _ => simp [ltK] at e
  | tup a =>
    cases y with
    | tup b =>
      refine tup rfl rfl fun h3 => ?_
      cases a with
      | nil => exact k0 kx.symm
      | cons d ds => cases d <;> first | (exact k0 kx.symm) | (have z : 3 = k := kx; omega) | (have z : 4 = k := kx; omega)
    | _ => simp [ltK] at e
  | _ => simp [ltK] at e
/-- the kind of the keys -/
theorem kind_ok {prog : Program} {w : World} {A : Around} {s' : Shared} (I : Inv X pins σ H s) (kp : ∀ b o, b ≠ X.env.locals → s.heap.get? b = some o → s'.heap.get? b = some o) {k : Nat} {l : List D} {vs : List V} {its : List Value} (h2 : 2 ≤ l.length) (hk : ∀ x ∈ l, kdS x = k) (k0 : k ≠ 0)
    (q : RDs X.K m H l vs) (p : Vals vs its) {C : SortKind → Shared → Prop} (h : C (if k < 3 then oneType' else tuples' true) s') : wpAny (model prog w) A (keyKind' its.toArray) C (fun _ _ => False) s' := by
  obtain ⟨mm, hn, _⟩ := id I.loc
  have ln := q.length
  have ln2 := p.length
  have mem : ∀ u ∈ its, ∃ x ∈ l, ∃ v, RD X.K m H x v ∧ RelV v u := fun u hu => by
    obtain ⟨i, hi, rfl⟩ := List.mem_iff_getElem.mp hu
    obtain ⟨x, ex⟩ : ∃ x, l[i]? = some x := ⟨_, List.getElem?_eq_getElem (by omega)⟩
    obtain ⟨v, hv, rv⟩ := q.get ex
    obtain ⟨u, hu, ru⟩ := p.get hv
    rw [List.getElem?_eq_getElem hi] at hu
    cases hu
    exact ⟨x, List.mem_of_getElem? ex, v, rv, ru⟩
  by_cases h3 : k < 3
  · rw [if_pos h3] at h
    by_cases h1 : k = 1
    · refine PySem.W.kas_kind (T := .type "int") (by omega) (fun u hu => ?_) (by decide) (by decide) h
      obtain ⟨x, hx, v, rx, rv⟩ := mem u hu
      have := hk x hx
      cases rx <;> first | (exfalso; simp [kdS] at this; omega) | skip
      · obtain ⟨t, rfl⟩ := rv
        exact .now
      · rename_i a ds vs' hq q'
        exfalso
        cases ds with
        | nil => simp [kdS] at this; omega
        | cons d ds => cases d <;> simp [kdS] at this <;> omega
    · have h1 : k = 2 := by omega
      refine PySem.W.kas_kind (T := .type "str") (by omega) (fun u hu => ?_) (by decide) (by decide) h
      obtain ⟨x, hx, v, rx, rv⟩ := mem u hu
      have := hk x hx
      cases rx <;> first | (exfalso; simp [kdS] at this; omega) | skip
      · obtain ⟨t, rfl⟩ := rv
        exact .now
      · rename_i a ds vs' hq q'
        exfalso
        cases ds with
        | nil => simp [kdS] at this; omega
        | cons d ds => cases d <;> simp [kdS] at this <;> omega
  · rw [if_neg h3] at h
    have T : ∃ T : Value, (T = .type "int" ∨ T = .type "str") ∧ ∀ x ∈ l, ∃ d ds, x = .tup (d :: ds) ∧ ((T = .type "int" ∧ ∃ i, d = .int i) ∨ (T = .type "str" ∧ ∃ i, d = .str i)) := by
      by_cases h4 : k = 3
      · refine ⟨.type "int", .inl rfl, fun x hx => ?_⟩
        have := hk x hx
        cases x <;> first | (exfalso; simp [kdS] at this; omega) | skip
        rename_i ds
        cases ds with
        | nil => exfalso; simp [kdS] at this; omega
        | cons d ds => cases d <;> first | (exfalso; simp [kdS] at this; omega) | exact ⟨_, _, rfl, .inl ⟨rfl, _, rfl⟩⟩
      · refine ⟨.type "str", .inr rfl, fun x hx => ?_⟩
        have := hk x hx
        cases x <;> first | (exfalso; simp [kdS] at this; omega) | skip
        rename_i ds
        cases ds with
        | nil => exfalso; simp [kdS] at this; omega
        | cons d ds => cases d <;> first | (exfalso; simp [kdS] at this; omega) | exact ⟨_, _, rfl, .inr ⟨rfl, _, rfl⟩⟩
    obtain ⟨T, hT, hl⟩ := T
    have go : ∀ {l : List D} {vs : List V} {its : List Value}, (∀ x ∈ l, ∃ d ds, x = .tup (d :: ds) ∧ ((T = .type "int" ∧ ∃ i, d = .int i) ∨ (T = .type "str" ∧ ∃ i, d = .str i))) → RDs X.K m H l vs → Vals vs its →
        ∃ fs, PySem.W.KatTups s'.heap its fs ∧ fs.length = l.length ∧ ∀ f ∈ fs, PySem.W.Looks (model prog w) s'.heap (typeOf f) T := by
      intro l
      induction l with
      | nil =>
        intro vs its _ q p
        cases q; cases p
        exact ⟨[], trivial, rfl, fun f hf => by cases hf⟩
      | cons x l ih =>
        intro vs its hl q p
        cases q with
        | cons r q =>
          cases p with
          | cons sv p =>
            obtain ⟨fs, f1, f2, f3⟩ := ih (fun y hy => hl y (List.mem_cons_of_mem _ hy)) q p
            obtain ⟨d, ds, rfl, hd⟩ := hl x List.mem_cons_self
            obtain ⟨a, vs', its', rfl, q', p', t'⟩ := tup_items I r sv
            obtain ⟨o, g1, g2, n, g3⟩ := isTup_keep hn kp t'
            cases q' with
            | cons rd q' =>
              cases p' with
              | cons sd p' =>
                rename_i u us
                refine ⟨u :: fs, PySem.W.KatTups.cons g1 g2 g3 (by simp) f1, by simp [f2], fun f hf => ?_⟩
                rcases List.mem_cons.mp hf with rfl | hf
                · rcases hd with ⟨rfl, i, rfl⟩ | ⟨rfl, i, rfl⟩
                  · cases rd; obtain ⟨t, rfl⟩ := sd; exact .now
                  · cases rd; obtain ⟨t, rfl⟩ := sd; exact .now
                · exact f3 f hf
    obtain ⟨fs, f1, f2, f3⟩ := go hl q p
    refine PySem.W.kat_kind f1 (by omega) f3 (by rcases hT with rfl | rfl <;> decide) ?_
    rw [show (T != Value.type "tuple") = true by rcases hT with rfl | rfl <;> decide]
    exact h
theorem sorted_many (I : Inv X pins σ H s) {h : Hh} (w : Wd X.K m h H) {a : Addr} {l l' : List D} {vs : List V} (hq : SqL X.K H a vs) (q : RDs X.K m H l vs) (h2 : 2 ≤ l.length) (h64 : l.length < 64) {k : Nat} (k0 : k ≠ 0) (hk : ∀ x ∈ l, kdS x = k) (hp : l'.Perm l) (hs : l'.Pairwise (Bef ltK)) {Q : VK}
    (c : ∀ (p : Addr) (us : List V), H p = none → RDs X.K m H l' us → us.length ≤ sizeLine → Q (.ref p) (upd H p (.lst us))) : wpAny (model X.prog X.w) X.A (call (.builtin "sorted") [.ref a]) (EP X pins σ Q) X.xe s := by
  obtain ⟨its, p1, t1, _⟩ := I.list hq
  have l1 := q.length
  have l2 := p1.length
  obtain ⟨mm, F⟩ := I.fr
  have hL : H X.env.locals = none := I.free
  refine PySem.W.kat_sorted F (news_all (g := X.base)) t1.isList (by omega) (by omega) fun Dn e1 h' F' N' ltD => ?_
  have D0 := N' (Dn, seqObj "list" #[] e1) List.mem_cons_self
  have notD : ∀ b o, s.heap.get? b = some o → b ≠ Dn := fun b o e z => by
    subst z
    exact Nat.lt_irrefl _ (ltD (b, o) (mem_allNews D0.2.1 D0.2.2 e))
  have HD : H Dn = none := by
    cases e : H Dn with
    | none => rfl
    | some o =>
      obtain ⟨u, hu⟩ := objOk_some (I.hok Dn o e)
      exact absurd rfl (notD Dn u hu)
  have kp : ∀ b o, b ≠ X.env.locals → s.heap.get? b = some o → h'.get? b = some o := fun b o hb e => by
    cases z : X.base.get? b with
    | some u =>
      have := I.bk b u z
      rw [e] at this; cases this
      exact F'.keep b _ z
    | none => exact (N' (b, o) (List.mem_cons_of_mem _ (mem_allNews hb z e))).1
  refine kind_ok I (s' := { s with heap := h' }) kp h2 hk k0 q p1 ?_
  let L : Nat → Nat → Bool := fun i j => decide (i ≠ j) && (ltK (l.getD i .non) (l.getD j .non) == some true)
  have hne : ∀ i, L i i = false := fun i => by simp [L]
  have hL' : ∀ (i j : Nat) (x y : D), l[i]? = some x → l[j]? = some y → i ≠ j → (L i j = true ↔ ltK x y = some true) := fun i j x y ex ey ne => by
    simp [L, ne, ex, ey, List.getD_eq_getElem?_getD]
  have so := so_of hp hs hne hL'
  have it1 : its.length = l.length := by omega
  rw [it1]
  refine KOk.wp (fun i j C hi hj ne hC => ?_) (sort_ok so h2) fun p ⟨hv, hsd⟩ => ?_
  · have ex : l[i]? = some l[i] := List.getElem?_eq_getElem hi
    have ey : l[j]? = some l[j] := List.getElem?_eq_getElem hj
    obtain ⟨vx, hvx, rx⟩ := q.get ex
    obtain ⟨vy, hvy, ry⟩ := q.get ey
    obtain ⟨ux, hux, sx⟩ := p1.get hvx
    obtain ⟨uy, huy, sy⟩ := p1.get hvy
    have lt : ltK l[i] l[j] = some (L i j) := by
      obtain ⟨a1, b1⟩ := pos_of hp ex
      obtain ⟨a2, b2⟩ := pos_of hp ey
      have nd : l.Nodup := hp.nodup_iff.mp (chain_nd hs)
      have na : a1 ≠ a2 := fun z => by
        subst z; rw [b1] at b2
        have e2 := Option.some.inj b2
        exact ne (get_inj nd ex (by rw [e2]; exact ey))
      rcases Nat.lt_or_gt_of_ne na with z | z
      · have bf := (ch_lt hs b1 b2 na).2 z
        rw [bf.1, (hL' i j _ _ ex ey ne).mpr bf.1]
      · have bf := (ch_lt hs b2 b1 (Ne.symm na)).2 z
        have : L i j = false := by
          cases e : L i j with
          | false => rfl
          | true =>
            have := (hL' i j _ _ ex ey ne).mp e
            rw [bf.2] at this; cases this
        rw [bf.2, this]
    show wpAny _ _ (keyLt' _ (its.getD i Value.none) (its.getD j Value.none)) C _ _
    rw [getD_of hux, getD_of huy]
    exact ask_ok I (s' := { s with heap := h' }) kp rfl (hk _ (List.mem_of_getElem? ex)) (hk _ (List.mem_of_getElem? ey)) k0 rx ry sx sy lt hC
  · have pl : ∀ i ∈ p.toList, i < l.length := fun i hi => List.mem_range.mp (hv.mem_iff.mp hi)
    have out := out_of hp hs hL' hv hsd D.non
    have rd := q.pick p.toList pl
    rw [out] at rd
    have vl := vals_pick p1 p.toList (fun i hi => by have := pl i hi; omega)
    have hz := hv.size
    have lz : (p.toList.map fun i => vs.getD i .non).length ≤ sizeLine := by rw [List.length_map, Array.length_toList, hz, sizeLine_eq]; omega
    refine ⟨_, _, F', N', .head (fun r hr => Nat.ne_of_lt (ltD r hr)), fun h2 cc F2 N2 => ?_⟩
    have kp2 : ∀ b o, b ≠ X.env.locals → s.heap.get? b = some o → h2.get? b = some o := fun b o hb e => by
      cases z : X.base.get? b with
      | some u =>
        have := I.bk b u z
        rw [e] at this; cases this
        exact F2.keep b _ z
      | none => exact (N2 (b, o) (List.mem_cons_of_mem _ (mem_allNews hb z e))).1
    have D2 := N2 (Dn, _) List.mem_cons_self
    have tr : ∀ b o, H b = some o → b ≠ Dn ∧ b ≠ X.env.locals := fun b o e => ⟨(fun z => by rw [z, HD] at e; cases e), (fun z => by rw [z, hL] at e; cases e)⟩
    suffices IX : Inv X pins σ (upd H Dn (.lst (p.toList.map fun i => vs.getD i .non))) { s with heap := h2, gens := s.gens, drawn := s.drawn, toks := s.toks } from
      ⟨.ref Dn, upd H Dn (.lst (p.toList.map fun i => vs.getD i .non)), IX, rfl, c Dn _ HD rd lz⟩
    refine L2.Inv.step (s := s) (g' := s.gens) (d' := s.drawn) (t' := s.toks) (ch := []) I (fun _ z => nomatch z) (fun b o hb _ _ e _ => kp2 b o hb e) (fun b o hb _ _ e _ => ⟨o.slots, kp2 b o hb e⟩) (fun b o _ e n => by rw [upd_ne (notD b o e)]; exact n) (fun b o _ e => ?_) (fun b xs e => by rw [upd_ne (tr b _ e).1]; exact e) (fun b o u e => by rw [upd_ne (tr b _ e).1]; exact e)
      (fun b ps e => ⟨#[], by rw [upd_ne (tr b _ e).1, e]; simp⟩) (fun m' hm => ?_) (fun b o e => ?_) I.bare
    · by_cases hb : b = X.env.locals
      · subst hb
        obtain ⟨o', _, _, e', _⟩ := F2.ns
        exact ⟨o', e'⟩
      · exact ⟨o, kp2 b o hb e⟩
    · have : m' = mm := funext fun x => hm.agree F.ns x
      rw [this]; exact F2.ns
    · by_cases hb : b = Dn
      · subst hb
        rw [upd_same] at e
        cases e
        exact ⟨lz, _, cc, vl, D2.1⟩
      · rw [upd_ne hb] at e
        refine (I.hok b o e).stay (fun b' u hb' e' => kp2 b' u ?_ e') (fun b' e' => by rw [upd_ne (tr b' _ e').1]; exact e') fun b' xs e' => by rw [upd_ne (tr b' _ e').1]; exact e'
        rcases hb' with z | z
        · rw [z]; exact (tr b _ e).2
        · exact (tr b' _ z).2
end
end Ng
end
section
set_option Elab.async false
set_option linter.all false
set_option maxRecDepth 100000
set_option maxHeartbeats 4000000
set_option autoImplicit false
namespace Ng
open PySem PySem.Spec PyProof.Rows L2
section
variable {X : Cx}
def tyName : D → Hh → Option String
  | .non, _ => some "NoneType"
  | d, h => (tyD d h).map Ty.nm
theorem isin_kit {K : PySem.W.Frag} {d : D} {h : Hh} {T : String} {b : Bool} (e : isinD d T h = some b) : ∃ t, tyName d h = some t ∧ PySem.W.kitOne K (.type t) (.type T) = some b := by
  unfold isinD at e
  split at e
  · split at e
    · rename_i hT
      have eb := Option.some.inj e
      subst eb
      refine ⟨"NoneType", rfl, ?_⟩
      simp [tyNames] at hT
      rcases hT with rfl | rfl | rfl | rfl | rfl <;> rfl
    · cases e
  · rename_i hn
    split at e
    · rename_i t et
      split at e
      · rename_i hT
        have eb := Option.some.inj e
        subst eb
        refine ⟨t.nm, ?_, ?_⟩
        · cases d <;> first | (exact absurd rfl hn) | (simp [tyName, et])
        · simp [tyNames] at hT
          cases t <;> rcases hT with rfl | rfl | rfl | rfl | rfl <;> rfl
      · cases e
    · cases e
theorem kia_D {pins : List (Addr × Obj)} {σ : Sg} {H : Hp} {s : Shared} {m : List Addr} {h : Hh} (I : Inv X pins σ H s) (w : Wd X.K m h H) {d : D} {v : V} {u : Value} {t : String} (r : RD X.K m H d v) (rv : RelV v u) (e : tyName d h = some t) :
    ∃ P : Heap → Prop, PySem.W.KitX X.K u (.type t) P ∧ P s.heap ∧ u ≠ .builtin "__main__.__loader__#opaque" := by
  cases r with
  | non => cases rv; cases e; exact ⟨_, PySem.W.kitx_none, trivial, fun z => nomatch z⟩
  | bl c => cases rv; cases e; exact ⟨_, PySem.W.kitx_bool, trivial, fun z => nomatch z⟩
  | int i => obtain ⟨t', rfl⟩ := rv; cases e; exact ⟨_, PySem.W.kitx_int, trivial, fun z => nomatch z⟩
  | str x => obtain ⟨t', rfl⟩ := rv; cases e; exact ⟨_, PySem.W.kitx_str, trivial, fun z => nomatch z⟩
  | ty n => cases e
  | tup h1 q =>
    cases rv; cases e
    obtain ⟨its, p1, ⟨o, h2, h3, _⟩, _⟩ := I.tuple h1
    exact ⟨_, PySem.W.kitx_tuple, ⟨o, h2, h3⟩, fun z => nomatch z⟩
  | ref ha =>
    rename_i n a
    cases rv
    simp only [tyName, tyD] at e
    cases z : lstAt h n with
    | none => rw [z] at e; cases e
    | some l =>
      rw [z] at e
      have e' : "list" = t := Option.some.inj e
      subst e'
      obtain ⟨a', vs, ha', hq, q⟩ := w.lst z
      rw [ha] at ha'; cases ha'
      obtain ⟨its, p1, ⟨o, k, h2, h3, _⟩, _⟩ := I.list hq
      exact ⟨_, PySem.W.kitx_list, ⟨o, h2, h3⟩, fun z => nomatch z⟩
theorem vals2R {x y : V} {us : List Value} (r : Vals [x, y] us) : ∃ u v, us = [u, v] ∧ RelV x u ∧ RelV y v := by
  cases r with
  | cons a t => cases t with
    | cons b t => cases t; exact ⟨_, _, rfl, a, b⟩
theorem one_of {K : PySem.W.Frag} {m : List Addr} {H : Hp} {k : D → Hh → Rs D} {ds : List D} {xs : List V} {h h' : Hh} {d : D} (r : RDs K m H ds xs) (e : one k ds h = .ok d h') : ∃ x v, xs = [v] ∧ RD K m H x v ∧ k x h = .ok d h' := by
  cases r with
  | nil => cases e
  | cons r1 r =>
    cases r with
    | nil => exact ⟨_, _, rfl, r1, e⟩
    | cons => cases e
theorem two_of {K : PySem.W.Frag} {m : List Addr} {H : Hp} {k : D → D → Hh → Rs D} {ds : List D} {xs : List V} {h h' : Hh} {d : D} (r : RDs K m H ds xs) (e : two k ds h = .ok d h') : ∃ x y v u, xs = [v, u] ∧ RD K m H x v ∧ RD K m H y u ∧ k x y h = .ok d h' := by
  cases r with
  | nil => cases e
  | cons r1 r =>
    cases r with
    | nil => cases e
    | cons r2 r =>
      cases r with
      | nil => exact ⟨_, _, _, _, rfl, r1, r2, e⟩
      | cons => cases e
theorem tys_vals {K : PySem.W.Frag} {m : List Addr} {H : Hp} : ∀ {ds : List D} {vs : List V} {us : List Value} {Ts : List String}, RDs K m H ds vs → Vals vs us → tysOf ds = some Ts → us = Ts.map Value.type
  | _, _, _, _, .nil, .nil, e => by
    have e' := Option.some.inj e
    subst e'
    rfl
  | _, _, _, _, .cons r q, .cons v t, e => by
    cases r <;> first | (cases e; done) | skip
    simp only [tysOf] at e
    split at e
    · rename_i l el
      have e' := Option.some.inj e
      subst e'
      cases v
      rw [tys_vals q t el]
      rfl
    · cases e
theorem isinAny_kit {K : PySem.W.Frag} {d : D} {h : Hh} {t : String} (et : tyName d h = some t) : ∀ {Ts : List String} {b : Bool}, isinAny d h Ts = some b → PySem.W.kitAny K (.type t) (Ts.map Value.type) = some b
  | [], b, e => e
  | T :: r, b, e => by
    simp only [isinAny] at e
    split at e
    · rename_i a c e1 e2
      have e' := Option.some.inj e
      subst e'
      obtain ⟨t', et', ek⟩ := isin_kit (K := K) e1
      rw [et] at et'; cases et'
      have ih := isinAny_kit (K := K) et e2
      simp only [List.map_cons, PySem.W.kitAny, ek, ih]
      cases a <;> rfl
    · cases e
def Blt.val : Blt → Value
  | .len => .builtin "len" | .isinst => .builtin "isinstance" | .int => .type "int" | .list => .type "list" | .max => .builtin "max" | .min => .builtin "min" | .sorted => .builtin "sorted"
theorem ints_rel {K : PySem.W.Frag} {m : List Addr} {H : Hp} : ∀ {ds : List D} {vs : List V} {l : List Int}, RDs K m H ds vs → intsD ds = some l → vs = l.map V.int
  | _, _, _, .nil, e => by cases e; rfl
  | _, _, l, .cons r t, e => by
    cases r <;> first | (cases e; done) | skip
    rename_i i
    simp only [intsD, Option.map_eq_some_iff] at e
    obtain ⟨l', e1, rfl⟩ := e
    rw [ints_rel t e1]
    rfl
theorem lst_of {m : List Addr} {h : Hh} {H : Hp} {K : PySem.W.Frag} (w : Wd K m h H) {d : D} {v : V} {l : List D} (r : RD K m H d v) (hl : isLst d h = true) (e : seqD d h = some l) : ∃ p vs, v = .ref p ∧ SqL K H p vs ∧ RDs K m H l vs := by
  cases r <;> first | (cases hl; done) | skip
  rename_i n a ha
  obtain ⟨a', vs, ha', hq, q⟩ := w.lst (show lstAt h n = some l from e)
  rw [ha] at ha'; cases ha'
  exact ⟨a, vs, rfl, hq, q⟩
theorem bestBlt (hc : X.calm = true) (hr : ∃ k, Room k X.A) (mx : Bool) : CallR X (.builtin (if mx then "max" else "min")) (rDc X.K (bestL mx)) := by
  intro pins s σ H xs us Q I rs q
  obtain ⟨m, h, ds, d, h', w, r, e, c⟩ := q
  have fin : ∀ z, RD X.K m H d z → h = h' → Q z H := fun z rz eh => by subst eh; exact c m z H Gr.refl w rz
  cases r with
  | nil => cases e
  | cons r1 r =>
    cases r with
    | nil =>
      simp only [bestL] at e
      split at e
      · rename_i l hl el
        split at e
        · rename_i i r' ei
          simp at e
          obtain ⟨rfl, rfl⟩ := e
          obtain ⟨p, vs, rfl, hq, q⟩ := lst_of w r1 hl el
          have ev := ints_rel q ei
          subst ev
          obtain ⟨u, rfl, ru⟩ := vals1 rs
          cases ru
          cases mx with
          | true => exact maxcall1 hc I hq (fin _ (.int _) rfl)
          | false => exact mincall1 hc I hq (fin _ (.int _) rfl)
        · cases e
        · cases mx with
          | true => cases e
          | false =>
            replace e : minL l h = .ok d h' := e
            unfold minL at e
            split at e
            · rename_i n r'
              split at e
              · rename_i k ek
                simp at e
                obtain ⟨rfl, rfl⟩ := e
                obtain ⟨p, vs, rfl, hq, q⟩ := lst_of w r1 hl el
                obtain ⟨u, rfl, ru⟩ := vals1 rs
                cases ru
                exact mincallR hc hr w I hq q ek fun v rv => fin _ rv rfl
              · cases e
            · cases e
      · cases e
    | cons r2 r =>
      cases r with
      | cons => cases e
      | nil =>
        cases r1 <;> first | (cases e; done) | skip
        rename_i i
        cases r2 <;> first | (cases e; done) | skip
        rename_i j
        simp [bestL] at e
        obtain ⟨rfl, rfl⟩ := e
        cases mx with
        | true => exact call_max2 hc pins s σ H _ us Q I rs ⟨i, j, rfl, fin _ (.int _) rfl⟩
        | false => exact call_min2 hc pins s σ H _ us Q I rs ⟨i, j, rfl, fin _ (.int _) rfl⟩
theorem sortBlt : CallR X (.builtin "sorted") (rDc X.K (one srtL)) := by
  intro pins s σ H xs us Q I rs q
  obtain ⟨m, h, ds, d, h', w, r, e, c⟩ := q
  obtain ⟨x, v, rfl, r1, e⟩ := one_of r e
  unfold srtL at e
  split at e
  · rename_i l hl el
    split at e
    · rename_i l' es
      simp at e
      obtain ⟨rfl, rfl⟩ := e
      obtain ⟨⟨h64, hk⟩, hp, hs⟩ := srtD_of es
      obtain ⟨p, vs, rfl, hq, q⟩ := lst_of w r1 hl el
      obtain ⟨u, rfl, ru⟩ := vals1 rs
      cases ru
      have fin : ∀ (p : Addr) (us : List V), H p = none → RDs X.K m H l' us → us.length ≤ sizeLine → Q (.ref p) (upd H p (.lst us)) := fun p us hp rd _ => by
        obtain ⟨w2, g2⟩ := w.lstNew hp rd
        exact c _ _ _ g2 w2 (.ref (by rw [← w.len]; simp))
      by_cases h2 : 2 ≤ l.length
      · rcases hk with z | ⟨k, k0, hk⟩
        · omega
        · exact sorted_many I w hq q h2 h64 k0 hk hp hs fin
      · obtain ⟨its, p1, t1, _⟩ := I.list hq
        have l1 := q.length
        have l2 := p1.length
        have ell : l' = l := by
          have := hp.length_eq
          rcases l with _ | ⟨x, _ | ⟨y, l⟩⟩
          · exact List.perm_nil.mp hp
          · exact List.perm_singleton.mp hp
          · simp at h2
        subst ell
        refine sorted_few t1.isList (by omega) ?_
        obtain ⟨e1, ho⟩ := sortedAll_at s.heap its its.toArray
        have kp : ∀ b o, s.heap.get? b = some o → (sortedAll s.heap its its.toArray).get? b = some o := fun b o e => sortedAll_old e
        have fr : H (s.heap.objs.size + 1) = none := I.hok.fresh (Nat.le_succ _)
        have lz : vs.length ≤ sizeLine := by rw [sizeLine_eq]; omega
        exact ⟨.ref _, _, I.laid (t' := s.toks) (o := .lst vs) kp (Nat.le_succ _) ⟨lz, its, e1, p1, ho⟩, rfl, fin _ vs fr q lz⟩
    · cases e
  · cases e
theorem callBlt (hc : X.calm = true) (hr : ∃ k, Room k X.A) (f : Blt) : CallR X f.val (rDc X.K (bltD f)) := by
  by_cases hm : f = .max
  · subst hm; exact bestBlt hc hr true
  by_cases hm' : f = .min
  · subst hm'; exact bestBlt hc hr false
  by_cases hm2 : f = .sorted
  · subst hm2; exact sortBlt
  intro pins s σ H xs us Q I rs q
  obtain ⟨m, h, ds, d, h', w, r, e, c⟩ := q
  have fin : ∀ z, RD X.K m H d z → h = h' → Q z H := fun z rz eh => by subst eh; exact c m z H Gr.refl w rz
  cases f with
  | max => exact absurd rfl hm
  | min => exact absurd rfl hm'
  | sorted => exact absurd rfl hm2
  | len =>
    obtain ⟨x, v, rfl, r1, e⟩ := one_of r e
    unfold lenL at e
    split at e
    · rename_i l el
      simp at e
      obtain ⟨rfl, rfl⟩ := e
      obtain ⟨p, vs, rfl, hq, q⟩ := seq_of w r1 el
      refine call_len_seq pins s σ H _ us Q I rs ⟨p, vs, rfl, hq, ?_⟩
      rw [← q.length]
      exact fin _ (.int _) rfl
    · cases e
  | int =>
    obtain ⟨x, v, rfl, r1, e⟩ := one_of r e
    cases r1 <;> first | (cases e; done) | skip
    · cases e
      exact call_int1 pins s σ H _ us Q I rs (.inr ⟨_, rfl, fin _ (.int _) rfl⟩)
    · cases e
      exact call_int1 pins s σ H _ us Q I rs (.inl ⟨_, rfl, fin _ (.int _) rfl⟩)
  | list =>
    obtain ⟨x, v, rfl, r1, e⟩ := one_of r e
    unfold listL at e
    split at e
    · rename_i l el
      simp at e
      obtain ⟨rfl, rfl⟩ := e
      obtain ⟨p, vs, rfl, hq, q⟩ := seq_of w r1 el
      refine call_list_of pins s σ H _ us Q I rs ⟨p, vs, rfl, hq, fun a ha => ?_⟩
      obtain ⟨w2, g2⟩ := w.lstNew ha q
      exact c _ _ _ g2 w2 (.ref (by rw [← w.len]; simp))
    · cases e
  | isinst =>
    obtain ⟨x, y, v, u, rfl, r1, r2, e⟩ := two_of r e
    obtain ⟨u1, u2, rfl, rv1, rv2⟩ := vals2R rs
    cases r2 <;> first | (cases e; done) | skip
    · rename_i T
      cases rv2
      simp only [isinL] at e
      split at e
      · rename_i b eb
        simp at e
        obtain ⟨rfl, rfl⟩ := e
        obtain ⟨t, et, ek⟩ := isin_kit (K := X.K) eb
        obtain ⟨P, Z, hP, hx⟩ := kia_D I w r1 rv1 et
        exact PySem.W.kia_one Z I.kIn hP ek hx fun tk => ⟨.bl b, H, I.tok tk, rfl, fin _ (.bl b) rfl⟩
      · cases e
    · rename_i a ds vs h1 q1
      cases rv2
      simp only [isinL] at e
      split at e
      · cases e
      · rename_i T Ts eT
        split at e
        · rename_i b eb
          simp at e
          obtain ⟨rfl, rfl⟩ := e
          have e1 : ∃ k, isinD x T h = some k := by
            simp only [isinAny] at eb
            split at eb
            · rename_i z _; exact ⟨_, z⟩
            · cases eb
          obtain ⟨k, e1⟩ := e1
          obtain ⟨t, et, _⟩ := isin_kit (K := X.K) e1
          obtain ⟨P, Z, hP, hx⟩ := kia_D I w r1 rv1 et
          obtain ⟨its, p1, ⟨⟨oc, od, odt, osl⟩, h2, h3, n, h4⟩, _⟩ := I.tuple h1
          simp only at h3 h4
          subst h3 h4
          rw [tys_vals q1 p1 eT] at h2
          exact PySem.W.kia_tup Z I.kIn hP h2 (isinAny_kit et eb) hx fun tk => ⟨.bl b, H, I.tok tk, rfl, fin _ (.bl _) rfl⟩
        · cases e
      · cases e
end
end Ng
end
section
set_option Elab.async false
set_option linter.all false
set_option maxRecDepth 100000
set_option maxHeartbeats 4000000
set_option autoImplicit false
namespace Ng
open PySem PySem.Spec PyProof.Rows L2
section
variable {X : Cx} {N : List Str} {sc : Scope} {G : Gs} {cl : Cl}
theorem visB_ok {x : Str} (h : visB sc x = true) : Vis sc x := by
  unfold visB at h
  split at h
  · rename_i e; exact .inl e
  · rename_i e; exact .inr (.inl e)
  · rename_i e; exact .inr (.inr e)
  · cases h
theorem locB_ok {x : Str} (h : locB sc x = true) : Loc sc x := by
  unfold locB at h
  split at h
  · rename_i e; exact .inl e
  · rename_i e; exact .inr e
  · cases h
theorem glB_ok (xo : XOk X N sc) {x : Str} (h : glB sc x = true) : Gl X x := by
  unfold glB at h
  split at h
  · rename_i e
    show X.env.scope.names.lookup x = some .globalImplicit
    rw [xo.s]; exact e
  · cases h
theorem noDbg_ok {x : Str} (h : noDbg x = true) : (x == ("__debug__" : Str)) = false ∧ (x == ("__classdict__" : Str)) = false ∧ x ≠ "__name__" := by
  unfold noDbg at h
  simp only [Bool.and_eq_true, Bool.not_eq_true'] at h
  exact ⟨h.1.1, h.1.2, fun z => by have := h.2; rw [z] at this; simp at this⟩
theorem tOf {e : PySem.Expr} {f : Ev → Hh → Rs D} (h : PE X e (TDE X.K f)) (he : ∀ whole, isTrue e X.env whole = (do let v ← whole; standAt e.pos; holding [v] (truthy v))) : PT X e (TDT X.K f) :=
  L2.PT.wk (pt_truth h he) fun s H Q ⟨m, r, hh, d, h', b, w, st, e1, eb, c⟩ => ⟨m, r, hh, d, h', w, st, e1, fun m' v H' g w' rd => ⟨b, truRel w' rd eb, c m' H' g w'⟩⟩
theorem cmpD_bl {op : Cop} {x y d : D} {h h' : Hh} (e : cmpD op x y h = .ok d h') : ∃ k, d = .bl k := by
  unfold cmpD at e
  split at e
  all_goals first
    | (cases e; exact ⟨_, rfl⟩)
    | (split at e <;> first
        | (cases e; exact ⟨_, rfl⟩)
        | (cases e; done)
        | (unfold inK at e; split at e <;> first | (cases e; exact ⟨_, rfl⟩) | (cases e; done))
        | (split at e <;> first
            | (unfold inD at e; split at e <;> first | (cases e; exact ⟨_, rfl⟩) | (cases e; done))
            | (cases e; done)))
    | (cases e; done)
/-- and, or, not of any truth -/
def tAndG (K : PySem.W.Frag) (ta tb : TE) : TE := fun σ H Q => ta σ H fun x H1 => ∃ k, TruV K x H1 k ∧ if k = true then tb σ H1 Q else Q x H1
def tOrG (K : PySem.W.Frag) (ta tb : TE) : TE := fun σ H Q => ta σ H fun x H1 => ∃ k, TruV K x H1 k ∧ if k = true then Q x H1 else tb σ H1 Q
def tNotG (K : PySem.W.Frag) (ta : TE) : TE := fun σ H Q => ta σ H fun x H1 => ∃ k, TruV K x H1 k ∧ Q (.bl (!k)) H1
theorem tru_keep {pins : List (Addr × Obj)} {s : Shared} {σ : Sg} {H : Hp} {x : V} {v : Value} {k : Bool} {Q : Bool → Shared → Prop} (I : Inv X pins σ H s) (r : RelV x v) (t : TruV X.K x H k) (h : ∀ s', Inv X pins σ H s' → Q k s') : wpAny (model X.prog X.w) X.A (truthy v) Q X.xe s :=
  thn (tru_ok pins s σ H x v (fun b H' => b = k ∧ H' = H) I r ⟨k, t, rfl, rfl⟩) fun b s' ⟨H', I', e1, e2⟩ => by subst e1; subst e2; exact h s' I'
theorem pe_andG {a b : PySem.Expr} {rest : List PySem.Expr} {pos : Pos} {ta tb : TE} (ha : PE X a ta) (hb : PE X (.BoolOp .And (b :: rest) pos) tb) : PE X (.BoolOp .And (a :: b :: rest) pos) (tAndG X.K ta tb) := by
  intro pins s σ H Q I h
  refine BoolOp_and (thn (ha pins s σ H _ I h) fun v s1 ⟨x, H1, I1, r1, k, t, q1⟩ => ?_)
  refine tru_keep I1 r1 t fun s2 I2 => ?_
  cases k with
  | true => exact hb pins s2 σ H1 Q I2 q1
  | false => exact ⟨x, H1, I2, r1, q1⟩
theorem pe_orG {a b : PySem.Expr} {rest : List PySem.Expr} {pos : Pos} {ta tb : TE} (ha : PE X a ta) (hb : PE X (.BoolOp .Or (b :: rest) pos) tb) : PE X (.BoolOp .Or (a :: b :: rest) pos) (tOrG X.K ta tb) := by
  intro pins s σ H Q I h
  refine BoolOp_or (thn (ha pins s σ H _ I h) fun v s1 ⟨x, H1, I1, r1, k, t, q1⟩ => ?_)
  refine tru_keep I1 r1 t fun s2 I2 => ?_
  cases k with
  | false => exact hb pins s2 σ H1 Q I2 q1
  | true => exact ⟨x, H1, I2, r1, q1⟩
theorem pe_notG {a : PySem.Expr} {pos : Pos} {ta : TE} (ha : PE X a ta) : PE X (.UnaryOp .Not a pos) (tNotG X.K ta) := by
  intro pins s σ H Q I h
  refine UnaryOp_ (thn (ha pins s σ H _ I h) fun v s1 ⟨x, H1, I1, r1, k, t, q1⟩ => ?_)
  exact not_of (tru_keep I1 r1 t fun s2 I2 => ⟨.bl (!k), H1, I2, rfl, q1⟩)
theorem pw_of {op : BoolOp} {vs : List PySem.Expr} {pos : Pos} {t : TT} (h : PT X (.BoolOp op vs pos) t) : PW X (.BoolOp op vs pos) t := fun wh pins s σ H Q I q => by
  have := h pins s σ H Q I q
  exact this
theorem star_one {e : PySem.Expr} (es : List PySem.Expr) (h : noStar e = true) : starEach (e :: es) X.env = (false, eval e X.env) :: starEach es X.env := by
  cases e <;> first | rfl | (cases h; done)
end
end Ng
end
section
set_option Elab.async false
set_option linter.all false
set_option maxRecDepth 100000
set_option maxHeartbeats 4000000
set_option autoImplicit false
namespace Ng
open PySem PySem.Spec PyProof.Rows L2
section
variable {X : Cx}
end
def Es.len : Es → Nat
  | .nil => 0
  | .cons _ l => l.len + 1
section
variable {X : Cx}
end
end Ng
end
section
set_option Elab.async false
set_option linter.all false
set_option maxRecDepth 100000
set_option maxHeartbeats 4000000
set_option autoImplicit false
namespace Ng
open PySem PySem.Spec PyProof.Rows L2
def clStep (env : Env) (p : Str × NameKind) (cs : List (Str × Addr)) : List (Str × Addr) := if (p.2 == .free) = true then (match env.cells.lookup p.1 with | some c => (p.1, c) :: cs | none => cs) else cs
def clOf (scope : Scope) (env : Env) : List (Str × Addr) := scope.names.foldl (fun cs p => clStep env p cs) []
theorem forIn_pure {f : Str × NameKind → List (Str × Addr) → Sem (ForInStep (List (Str × Addr)))} {g : Str × NameKind → List (Str × Addr) → List (Str × Addr)} : ∀ (l : List (Str × NameKind)) (acc : List (Str × Addr)), (∀ p ∈ l, ∀ cs, f p cs = pure (.yield (g p cs))) → forIn l acc f = pure (l.foldl (fun cs p => g p cs) acc)
  | [], acc, _ => rfl
  | p :: l, acc, h => by
    rw [List.forIn_cons, h p List.mem_cons_self]
    show (forIn l (g p acc) f) = _
    rw [forIn_pure l (g p acc) fun q hq => h q (List.mem_cons_of_mem _ hq)]
    rfl
theorem closure_is {scope : Scope} {env : Env} (h : ∀ p ∈ scope.names, p.2 = .free → ∃ c, env.cells.lookup p.1 = some c) : closureFor scope env = pure (clOf scope env) := by
  simp only [closureFor]
  rw [forIn_pure (g := clStep env) scope.names [] (fun p hp cs => by
    obtain ⟨n, k⟩ := p
    cases hk : (k == NameKind.free) with
    | false => (simp only [hk, clStep, Bool.false_eq_true, if_false] <;> rfl)
    | true =>
      obtain ⟨c, hc⟩ := h (n, k) hp (by simpa using hk)
      (simp only [hk, clStep, if_true, hc, cellOf] <;> rfl))]
  rfl
theorem cl_mem {env : Env} : ∀ (l : List (Str × NameKind)) (acc : List (Str × Addr)), (∀ q ∈ acc, env.cells.lookup q.1 = some q.2) → ∀ q ∈ l.foldl (fun cs p => clStep env p cs) acc, env.cells.lookup q.1 = some q.2
  | [], acc, h => h
  | p :: l, acc, h => cl_mem l (clStep env p acc) fun q hq => by
    unfold clStep at hq
    split at hq
    · split at hq
      · rename_i c hc
        rcases List.mem_cons.mp hq with rfl | hq
        · exact hc
        · exact h q hq
      · exact h q hq
    · exact h q hq
theorem cl_sub {env : Env} : ∀ (l : List (Str × NameKind)) (acc : List (Str × Addr)) (q : Str × Addr), q ∈ acc → q ∈ l.foldl (fun cs p => clStep env p cs) acc
  | [], acc, q, h => h
  | p :: l, acc, q, h => cl_sub l (clStep env p acc) q (by
    unfold clStep
    split
    · split
      · exact List.mem_cons_of_mem _ h
      · exact h
    · exact h)
theorem cl_has {env : Env} : ∀ (l : List (Str × NameKind)) (acc : List (Str × Addr)) (n : Str) (c : Addr), (n, NameKind.free) ∈ l → env.cells.lookup n = some c → (n, c) ∈ l.foldl (fun cs p => clStep env p cs) acc
  | [], _, _, _, h, _ => by cases h
  | p :: l, acc, n, c, h, hc => by
    rcases List.mem_cons.mp h with rfl | h
    · refine cl_sub l (clStep env (n, NameKind.free) acc) (n, c) ?_
      unfold clStep
      rw [if_pos (by rfl)]
      simp only [hc]
      exact List.mem_cons_self
    · exact cl_has l _ n c h hc
theorem lookup_some_of_mem {α : Type} {n : Str} {c : α} : ∀ {l : List (Str × α)}, (n, c) ∈ l → ∃ c', l.lookup n = some c'
  | [], h => by cases h
  | (m, d) :: l, h => by
    cases e : n == m with
    | true => exact ⟨d, by simp [List.lookup_cons, e]⟩
    | false =>
      rcases List.mem_cons.mp h with z | z
      · cases z; simp at e
      · obtain ⟨c', hc'⟩ := lookup_some_of_mem z
        exact ⟨c', by simp only [List.lookup_cons, e]; exact hc'⟩
theorem clOf_lookup {scope : Scope} {env : Env} {n : Str} {c : Addr} (h : (clOf scope env).lookup n = some c) : env.cells.lookup n = some c :=
  cl_mem scope.names [] (fun _ hq => by cases hq) (n, c) (PySem.mem_of_lookup h)
theorem clOf_has {scope : Scope} {env : Env} {n : Str} {c : Addr} (h : (n, NameKind.free) ∈ scope.names) (hc : env.cells.lookup n = some c) : (clOf scope env).lookup n = some c := by
  obtain ⟨c', hc'⟩ := lookup_some_of_mem (cl_has scope.names [] n c h hc)
  have := clOf_lookup hc'
  rw [hc] at this; cases this
  exact hc'
theorem relab_lookup {scope sc : Scope} {x : Str} {k' : NameKind} (h : (relab scope sc).names.lookup x = some k') : ∃ k, scope.names.lookup x = some k ∧ (k' = k ∨ (k = .free ∧ k' = .cell)) := by
  unfold relab at h
  have go : ∀ (l : List (Str × NameKind)), (l.map fun (n, k) => if (k == .free && sc.kind == .function && sc.names.lookup n == some .cell) then (n, NameKind.cell) else (n, k)).lookup x = some k' → ∃ k, l.lookup x = some k ∧ (k' = k ∨ (k = .free ∧ k' = .cell)) := by
    intro l
    induction l with
    | nil => intro h; simp at h
    | cons p l ih =>
      intro h
      obtain ⟨n, k⟩ := p
      cases e : x == n with
      | true =>
        refine ⟨k, by simp [List.lookup_cons, e], ?_⟩
        simp only [List.map_cons] at h
        by_cases hc : (k == .free && sc.kind == .function && sc.names.lookup n == some .cell) = true
        · rw [if_pos hc] at h
          simp only [List.lookup_cons, e] at h
          simp only [Bool.and_eq_true, beq_iff_eq] at hc
          exact .inr ⟨hc.1.1, (Option.some.inj h).symm⟩
        · rw [if_neg hc] at h
          simp only [List.lookup_cons, e] at h
          exact .inl (Option.some.inj h).symm
      | false =>
        simp only [List.map_cons] at h
        have h' : (l.map fun (n, k) => if (k == .free && sc.kind == .function && sc.names.lookup n == some .cell) then (n, NameKind.cell) else (n, k)).lookup x = some k' := by
          by_cases hc : (k == .free && sc.kind == .function && sc.names.lookup n == some .cell) = true
          · rw [if_pos hc] at h; simp only [List.lookup_cons, e] at h; exact h
          · rw [if_neg hc] at h; simp only [List.lookup_cons, e] at h; exact h
        obtain ⟨k2, e2, e3⟩ := ih h'
        exact ⟨k2, by simp only [List.lookup_cons, e]; exact e2, e3⟩
  exact go scope.names h
theorem relab_cell {scope sc : Scope} {x : Str} (h : scope.names.lookup x = some .free) (hk : sc.kind = .function) (hc : sc.names.lookup x = some .cell) : (relab scope sc).names.lookup x = some .cell := by
  unfold relab
  have go : ∀ (l : List (Str × NameKind)), l.lookup x = some .free → (l.map fun (n, k) => if (k == .free && sc.kind == .function && sc.names.lookup n == some .cell) then (n, NameKind.cell) else (n, k)).lookup x = some .cell := by
    intro l
    induction l with
    | nil => intro h; simp at h
    | cons p l ih =>
      intro h
      obtain ⟨n, k⟩ := p
      cases e : x == n with
      | true =>
        have ex : x = n := by simpa using e
        subst ex
        simp only [List.lookup_cons, e] at h
        cases h
        simp [List.map_cons, hk, hc]
      | false =>
        simp only [List.lookup_cons, e] at h
        simp only [List.map_cons]
        by_cases hc : (k == .free && sc.kind == .function && sc.names.lookup n == some .cell) = true
        · rw [if_pos hc]; simp only [List.lookup_cons, e]; exact ih h
        · rw [if_neg hc]; simp only [List.lookup_cons, e]; exact ih h
  exact go scope.names h
theorem nodupB_ok : ∀ {l : List Str}, nodupB l = true → l.Nodup
  | [], _ => List.nodup_nil
  | x :: l, h => by
    have h' : (!l.contains x && nodupB l) = true := h
    simp only [Bool.and_eq_true, Bool.not_eq_true'] at h'
    refine List.nodup_cons.mpr ⟨fun hx => ?_, nodupB_ok h'.2⟩
    have := h'.1
    simp [hx] at this
structure ScOk (scope sc : Scope) : Prop where
  kind : scope.kind = .function
  out : sc.kind = .function
  nd : (scope.names.map (·.1)).Nodup
  loc : ∀ p ∈ scope.names, p.2 = .local → scope.names.lookup p.1 = some .local
  free : ∀ p ∈ scope.names, p.2 = .free → sc.names.lookup p.1 = some .cell
theorem scOk_of {scope sc : Scope} (h : scOk scope sc = true) : ScOk scope sc := by
  unfold scOk at h
  simp only [Bool.and_eq_true, beq_iff_eq, List.all_eq_true, Bool.or_eq_true, Bool.not_eq_true'] at h
  obtain ⟨⟨⟨h1, h2⟩, h0⟩, h3⟩ := h
  refine ⟨h1, h2, nodupB_ok h0, fun p hp e => ?_, fun p hp e => ?_⟩
  · rcases (h3 p hp).1 with z | z
    · rw [e] at z; simp at z
    · simpa using z
  · rcases (h3 p hp).2 with z | z
    · rw [e] at z; simp at z
    · simpa using z
theorem lookup_nd {α : Type} {x : Str} {k : α} : ∀ {l : List (Str × α)}, (l.map (·.1)).Nodup → (x, k) ∈ l → l.lookup x = some k
  | [], _, h => by cases h
  | (y, j) :: l, nd, h => by
    rw [List.map_cons, List.nodup_cons] at nd
    rcases List.mem_cons.mp h with e | h2
    · cases e; simp [List.lookup_cons]
    · have ne : (x == y) = false := by
        rw [beq_eq_false_iff_ne]
        rintro rfl
        exact nd.1 (List.mem_map.mpr ⟨(x, k), h2, rfl⟩)
      rw [List.lookup_cons, ne]
      exact lookup_nd nd.2 h2
theorem relab_own {scope : Scope} {env : Env} {x : Str} (h : scope.names.lookup x = some .cell) : (relabel scope env).names.lookup x = some .cell := by
  unfold relabel
  have go : ∀ (l : List (Str × NameKind)), l.lookup x = some .cell → (l.map fun (n, k) => if (k == .free && env.scope.kind == .function && env.kindOf n == some .cell) then (n, NameKind.cell) else (n, k)).lookup x = some .cell := by
    intro l
    induction l with
    | nil => intro h; simp at h
    | cons p l ih =>
      intro h
      obtain ⟨n, k⟩ := p
      cases e : x == n with
      | true =>
        simp only [List.lookup_cons, e] at h
        cases h
        simp [List.map_cons, List.lookup_cons, e]
      | false =>
        simp only [List.lookup_cons, e] at h
        simp only [List.map_cons]
        by_cases hc : (k == .free && env.scope.kind == .function && env.kindOf n == some .cell) = true
        · rw [if_pos hc]; simp only [List.lookup_cons, e]; exact ih h
        · rw [if_neg hc]; simp only [List.lookup_cons, e]; exact ih h
  exact go scope.names h
theorem cellsFrom_app : ∀ (names : List (Str × NameKind)) (n : Nat) (acc : List (Str × Addr)), cellsFrom n names acc = cellsFrom n names [] ++ acc
  | [], _, _ => rfl
  | (x, k) :: r, n, acc => by
    unfold cellsFrom
    split
    · rw [cellsFrom_app r (n + 1) ((x, n) :: acc), cellsFrom_app r (n + 1) [(x, n)]]; simp
    · exact cellsFrom_app r n acc
theorem cellsFrom_mem : ∀ (names : List (Str × NameKind)) (n : Nat) (x : Str) (c : Addr), (x, c) ∈ cellsFrom n names [] → (x, NameKind.cell) ∈ names
  | [], _, _, _, h => by cases h
  | (y, k) :: r, n, x, c, h => by
    unfold cellsFrom at h
    split at h
    · rename_i hk
      rw [cellsFrom_app] at h
      rcases List.mem_append.mp h with h | h
      · exact List.mem_cons_of_mem _ (cellsFrom_mem r _ x c h)
      · have e : (x, c) = (y, n) := by simpa using h
        cases e
        have hk' : k = .cell := by simpa using hk
        subst hk'
        exact List.mem_cons_self
    · exact List.mem_cons_of_mem _ (cellsFrom_mem r _ x c h)
def bcs (scope : Scope) (env : Env) (C : Addr) : List (Str × Addr) := cellsFrom (C + 1) scope.names (clOf scope env)
structure BCs (scope : Scope) (env : Env) (C : Addr) (h1 : Heap) : Prop where
  old : ∀ x, (x, NameKind.free) ∈ scope.names → (bcs scope env C).lookup x = (clOf scope env).lookup x
  new : ∀ x, scope.names.lookup x = some .cell → ∃ c, (bcs scope env C).lookup x = some c
  inv : ∀ x c, (bcs scope env C).lookup x = some c → (clOf scope env).lookup x = some c ∨ (C < c ∧ h1.IsCell c none ∧ ∀ y, (bcs scope env C).lookup y = some c → C < c → x = y)
  cellNew : ∀ x c, scope.names.lookup x = some .cell → (bcs scope env C).lookup x = some c → C < c
theorem bcs_ok {scope sc : Scope} {env : Env} {C : Addr} {h1 : Heap} (S : ScOk scope sc) (hlow : ∀ x c, env.cells.lookup x = some c → c < C) (ok : CellsOk h1 (C + 1) (cellsFrom (C + 1) scope.names [])) : BCs scope env C h1 := by
  have spl : ∀ x, (bcs scope env C).lookup x = ((cellsFrom (C + 1) scope.names []).lookup x).or ((clOf scope env).lookup x) := fun x => by
    unfold bcs; rw [cellsFrom_app, List.lookup_append]
  have inv : ∀ x c, (bcs scope env C).lookup x = some c → (cellsFrom (C + 1) scope.names []).lookup x = some c ∨ ((cellsFrom (C + 1) scope.names []).lookup x = none ∧ (clOf scope env).lookup x = some c) := fun x c e => by
    rw [spl] at e
    cases q : (cellsFrom (C + 1) scope.names []).lookup x with
    | none => rw [q] at e; exact .inr ⟨rfl, e⟩
    | some c' => rw [q] at e; exact .inl e
  refine ⟨fun x hx => ?_, fun x hx => ?_, fun x c e => ?_, fun x c hx e => ?_⟩
  · rw [spl]
    cases q : (cellsFrom (C + 1) scope.names []).lookup x with
    | none => rfl
    | some c =>
      have z := lookup_nd S.nd (cellsFrom_mem _ _ _ _ (PySem.mem_of_lookup q))
      rw [lookup_nd S.nd hx] at z; cases z
  · have q := PySem.W.cellsFrom_some scope.names (C + 1) [] (.inl hx)
    obtain ⟨c, hc⟩ := Option.isSome_iff_exists.mp q
    exact ⟨c, by rw [spl, hc]; rfl⟩
  · rcases inv x c e with q | ⟨_, q⟩
    · have m := ok.empty x c (PySem.mem_of_lookup q)
      refine .inr ⟨m.2, m.1, fun y ey _ => ?_⟩
      rcases inv y c ey with q' | ⟨_, q'⟩
      · exact name_of_addr ok.apart (PySem.mem_of_lookup q) (PySem.mem_of_lookup q')
      · exact absurd (hlow y c (clOf_lookup q')) (Nat.not_lt.mpr (Nat.le_of_lt m.2))
    · exact .inl q
  · rcases inv x c e with q | ⟨q0, q⟩
    · exact (ok.empty x c (PySem.mem_of_lookup q)).2
    · have q2 := PySem.W.cellsFrom_some scope.names (C + 1) [] (.inl hx)
      rw [q0] at q2; cases q2
def blkX (X : Cx) (N' : List Str) (scope : Scope) (C : Addr) (s3 : Shared) (H3 : Hp) (fp : List Addr) : Cx :=
  { X with N := N', s₀ := s3, H₀ := H3, env := compEnvC scope (bcs scope X.env C) C X.env, outer := X.stack, stack := X.stack, ex := fp, fn := fun x => scope.names.lookup x == some .cell, pn := [], xe := fun _ _ => False }
def blkS (N' : List Str) (cap : List Nat) (σ : Sg) : Sg := List.replicate (N'.length - cap.length) none ++ cap.map fun (i : Nat) => (match σ[i]? with | some x => x | none => none)
section
variable {X : Cx} {pins : List (Addr × Obj)} {σ : Sg} {H3 : Hp} {s3 : Shared} {N' : List Str} {scope : Scope} {fp : List Addr} {cap : List Nat}
theorem blk_start (I : Inv X pins σ H3 s3) (S : ScOk scope X.env.scope) (hcap : cap.length ≤ N'.length) (hN : (N'.drop (N'.length - cap.length)).map some = cap.map (fun (i : Nat) => X.N[i]?)) (hfr : ∀ x ∈ N'.drop (N'.length - cap.length), scope.names.lookup x = some .free)
    {h1 : Heap} {tk : Nat} {m : Str → Option Value} (hns : h1.Ns s3.heap.objs.size m) (keep : ∀ b o, s3.heap.get? b = some o → h1.get? b = some o) (B : BCs scope X.env s3.heap.objs.size h1)
    (hfp : ∀ b ∈ fp, FpOk X pins H3 b) (hob : ∀ b ∈ fp, b < s3.heap.objs.size) (hfb : ∀ b ∈ fp, ∀ o, X.base.get? b ≠ some o) : Inv (blkX X N' scope s3.heap.objs.size s3 H3 fp) [] (blkS N' cap σ) H3 { s3 with heap := h1, toks := tk } := by
  have stkN : ∀ b, b ≠ X.env.locals → b ∉ X.fs → b ∉ frs X.stack := fun b h1 h2 hb => (List.mem_cons.mp (I.stkSub b hb)).elim h1 h2
  have kd : X.env.scope.kind = .function := I.ok.kind
  have cellFree : ∀ x, (relab scope X.env.scope).names.lookup x = some .cell ∨ (relab scope X.env.scope).names.lookup x = some .free → (x, NameKind.free) ∈ scope.names ∨ scope.names.lookup x = some .cell := fun x hx => by
    have : ∃ k', (k' = NameKind.cell ∨ k' = .free) ∧ (relab scope X.env.scope).names.lookup x = some k' := by
      rcases hx with h | h
      · exact ⟨_, .inl rfl, h⟩
      · exact ⟨_, .inr rfl, h⟩
    obtain ⟨k', hk', h⟩ := this
    obtain ⟨k, e1, e2⟩ := relab_lookup h
    have hm := PySem.mem_of_lookup e1
    rcases e2 with rfl | ⟨rfl, _⟩
    · rcases hk' with rfl | rfl
      · exact .inr e1
      · exact .inl hm
    · exact .inl hm
  have lowC : ∀ x c, X.env.cells.lookup x = some c → c < s3.heap.objs.size := fun x c e => let ⟨_, q⟩ := I.cell x c e; q.lt
  have hasC : ∀ x, (x, NameKind.free) ∈ scope.names → ∃ c, X.env.cells.lookup x = some c := fun x hx => I.ok.has x (.inl (S.free _ hx rfl))
  refine ⟨⟨I.ok.mod, by show (relabel scope X.env).kind = _; exact S.kind, I.ok.glob, I.ok.blt, Nat.le_refl _, fun x y c h1 h2 => ?_, fun x hx => ?_, fun x c h e => Nat.le_of_lt (B.cellNew x c (beq_iff_eq.mp h) e), I.ok.hd, I.ok.frames, .inl rfl, fun b hb => ⟨Nat.ne_of_lt (hob b hb), fun x c e => ?_⟩, I.bs, Nat.le_trans I.ok.bsz I.sz, fun b o e hb => hfb b hb o e, fun b hb => stkN b (hfp b hb).2.1 (hfp b hb).2.2.1, I.stack, I.stkFree⟩,
    rfl, I.bare, Un.kept keep, ⟨m, hns, fun i x v e1 e2 e3 => ?_⟩, fun x c e => ?_, I.hok.fresh (Nat.le_refl _), fun x c e => ?_, fun p hp => absurd (show p ∈ ([] : List (Addr × Obj)) from hp) (by simp), I.hok.kept keep, ?_⟩
  · rcases B.inv x c h1 with a | ⟨a1, _, a3⟩
    · rcases B.inv y c h2 with b | ⟨b1, _, _⟩
      · exact I.ok.inj x y c (clOf_lookup a) (clOf_lookup b)
      · exact absurd (lowC x c (clOf_lookup a)) (Nat.not_lt.mpr (Nat.le_of_lt b1))
    · exact a3 y h2 a1
  · rcases cellFree x hx with hf | hf
    · obtain ⟨c, hc⟩ := hasC x hf
      exact ⟨c, (B.old x hf).trans (clOf_has hf hc)⟩
    · exact B.new x hf
  · rcases B.inv x c e with a | ⟨a1, _, _⟩
    · exact (hfp b hb).2.2.2.2.1 x c (clOf_lookup a)
    · exact Nat.ne_of_gt (Nat.lt_trans (hob b hb) a1)
  · -- a captured name
    have hi : ¬ i < N'.length - cap.length := fun hi => by
      unfold blkS at e2
      rw [List.getElem?_append_left (by simpa using hi), List.getElem?_replicate] at e2
      split at e2 <;> cases e2
    have e1' : N'[i]? = some x := e1
    have hiN : i < N'.length := (List.getElem?_eq_some_iff.mp e1').1
    unfold blkS at e2
    rw [List.getElem?_append_right (by simpa using hi), List.length_replicate, List.getElem?_map] at e2
    have hd : (N'.drop (N'.length - cap.length))[i - (N'.length - cap.length)]? = some x := by
      rw [List.getElem?_drop]
      rw [show N'.length - cap.length + (i - (N'.length - cap.length)) = i by omega]
      exact e1'
    cases ec : cap[i - (N'.length - cap.length)]? with
    | none => rw [ec] at e2; cases e2
    | some j =>
      rw [ec] at e2
      have hj : X.N[j]? = some x := by
        have z := congrArg (fun l => l[i - (N'.length - cap.length)]?) hN
        simp only [List.getElem?_map, hd, ec, Option.map_some] at z
        exact (Option.some.inj z).symm
      have hσ : σ[j]? = some (some v) := by
        have e2' : (match σ[j]? with | some x => x | none => none) = some v := Option.some.inj e2
        cases q : σ[j]? with
        | none => rw [q] at e2'; cases e2'
        | some y => rw [q] at e2'; exact congrArg some e2'
      have hxf : scope.names.lookup x = some .free := hfr x (List.mem_of_getElem? hd)
      have hxc := S.free _ (PySem.mem_of_lookup hxf) rfl
      obtain ⟨m0, hn0, hl0⟩ := I.loc
      obtain ⟨u, ru, l0⟩ := hl0 j x v hj hσ (.inr (.inl hxc))
      refine ⟨u, ru, .inr ⟨.inl ?_, ?_⟩⟩
      · show (relabel scope X.env).names.lookup x = some .cell
        exact relab_cell (sc := X.env.scope) hxf kd hxc
      · rcases l0 with ⟨z, _⟩ | ⟨_, c, hc, o, ho, hd'⟩
        · have z' : X.env.scope.names.lookup x = some .local := z
          rw [hxc] at z'; cases z'
        · exact ⟨c, (B.old x (PySem.mem_of_lookup hxf)).trans (clOf_has (PySem.mem_of_lookup hxf) hc), o, keep c o ho, hd'⟩
  · rcases B.inv x c e with a | ⟨_, a2, _⟩
    · obtain ⟨v, o, ho, hd⟩ := I.cell x c (clOf_lookup a)
      exact ⟨v, o, keep c o ho, hd⟩
    · exact ⟨_, a2⟩
  · rcases B.inv x c e with a | ⟨a1, _, _⟩
    · exact I.freeC x c (clOf_lookup a)
    · exact I.hok.fresh (Nat.le_of_lt a1)
  · unfold blkS
    show _ = N'.length
    rw [List.length_append, List.length_replicate, List.length_map]
    omega
end
/-- a block's names are laid, its cells too -/
theorem wpAny_newBlockEnv {M : Model} {A : Around} {E : Value → Shared → Prop} {scope : Scope} {env : Env} {s : Shared} {Q : Env → Shared → Prop}
    (h : ∀ h1 : Heap, h1.Ns s.heap.objs.size (fun _ => none) → (∀ b o, s.heap.get? b = some o → h1.get? b = some o) → CellsOk h1 (s.heap.objs.size + 1) (cellsFrom (s.heap.objs.size + 1) scope.names []) →
      Q (newEnv scope s.heap.objs.size env.globals (bcs scope env s.heap.objs.size) env.qual none .none (some env) builtinsNs) { s with heap := h1 }) :
    wpAny M A (newFunctionEnv scope env.globals (clOf scope env) [] env.qual none .none (some env)) Q E s := by
  simp only [newFunctionEnv, Option.isSome_some, if_true]
  refine wpAny_bind (wpAny_alloc ?_)
  refine wpAny_bind (wpAny_layCells _ (fun name kind cells => by cases hkc : kind == NameKind.cell <;> simp [hkc]) _ _ _ _ ?_)
  have hsz : (s.heap.push { cls := .type "dict", data := .dict #[] }).objs.size = s.heap.objs.size + 1 := Heap.size_push ..
  have ok := cellsFrom_ok scope.names (s.heap.push { cls := .type "dict", data := .dict #[] }) (s.heap.objs.size + 1) [] ⟨fun _ _ hm => (nomatch hm), List.Pairwise.nil⟩ (by rw [hsz]; exact Nat.le_refl _)
  rw [hsz] at ok
  rw [show ({ s with heap := s.heap.push { cls := .type "dict", data := .dict #[] } } : Shared).heap.objs.size = s.heap.objs.size + 1 from hsz]
  refine wpAny_bind (wpAny_of_eq (List.forIn_nil ..) (wpAny_pure ?_))
  exact h _ ((Heap.Ns.new s.heap (.type "dict")).keeps (pushCells_keeps _ _)) (fun b o e => pushCells_keeps _ _ b o (Heap.get?_push_of_some _ e)) ok
def testsOf (ifs : List PySem.Expr) (env : Env) (b : Bool) : Sem Bool := forIn ifs b fun c r => if r = true then do let ok ← isTrue c env (eval c env); pure (ForInStep.yield ok) else pure (ForInStep.yield r)
theorem comp_loop {elt tg iter : PySem.Expr} {ifs : List PySem.Expr} {scope : Scope} {pos : Pos} {it acc : Value} {env : Env} {P : Program} {w : World} {A : Around} {R : Result → Shared → Prop} {s : Shared} (J : Nat → Shared → Prop)
    (turn : ∀ k s, J k s → wpAny (model P w) A (pyNext it) (fun r s1 => match r with
      | none => R (.ok .next) s1
      | some v => wpAny (model P w) A (letOwnedTupleGo tg it v) (fun _ s2 => wpAny (model P w) A (assign tg env v) (fun _ s3 => wpAny (model P w) A (testsOf ifs env true) (fun ok s4 =>
          if ok = true then wpAny (model P w) A (eval elt env) (fun x s5 => wpAny (model P w) A (call (.builtin "list.append") [acc, x]) (fun _ s6 => ∃ k', k' < k ∧ J k' s6) nev s5) nev s4
          else ∃ k', k' < k ∧ J k' s4) nev s3) nev s2) nev s1) nev s)
    (k : Nat) (h : J k s) : codeAny (model P w) A (.compLoop (.ListComp elt [⟨tg, iter, ifs, 0⟩] scope pos) 0 it acc env) R s := by
  refine codeAny_loop (I := J) rfl (turn := fun k s hk => ?_) k h
  show wpAny _ A (Sem.onRaise (compTurn (.ListComp elt [⟨tg, iter, ifs, 0⟩] scope pos) 0 it acc env) (fun x => do noteFrame x env; theTreesLotGoes x)) _ _ s
  refine wpAny_noted ?_
  rw [compTurn_list]
  have no : ∀ {E : Value → Shared → Prop} (e : Value) (s : Shared), nev e s → E e s := fun _ _ f => f.elim
  refine wpAny_bind (wpAny_standAt (wpAny_bind (wpAny_mono (turn k s hk) (fun r s1 q1 => ?_) no)))
  cases r with
  | none => exact wpAny_pure q1
  | some v =>
    refine wpAny_bind (wpAny_mono q1 (fun _ s2 q2 => wpAny_bind (wpAny_mono q2 (fun _ s3 q3 => wpAny_bind (wpAny_mono q3 (fun ok s4 q4 => ?_) no)) no)) no)
    cases ok with
    | false => exact wpAny_pure ⟨rfl, q4⟩
    | true => exact wpAny_bind (wpAny_bind (wpAny_mono q4 (fun x s5 q5 => wpAny_bind (wpAny_mono q5 (fun _ s6 q6 => wpAny_pure (wpAny_pure ⟨rfl, q6⟩)) no)) no))
end Ng
end
section
set_option Elab.async false
set_option linter.all false
set_option maxRecDepth 100000
set_option maxHeartbeats 4000000
set_option autoImplicit false
namespace Ng
open PySem PySem.Spec PyProof.Rows L2
def TDG (K : PySem.W.Frag) (t : Tg) : TG := fun v s H Q => ∃ m h r d r', Wd K m h H ∧ RSt K m H r s ∧ RD K m H d v ∧ setT t d r = some r' ∧ ∀ s', RSt K m H r' s' → Q s' H
def TDB (K : PySem.W.Frag) (f : Ev → Hh → Rs Bool) : TT := fun s H Q => ∃ m r h b h', Wd K m h H ∧ RSt K m H r s ∧ f r h = .ok b h' ∧ ∀ m' H', Gr K m H m' H' → Wd K m' h' H' → Q b H'
def PTs (X : Cx) (ifs : List PySem.Expr) (t : TT) : Prop := ∀ (pins : List (Addr × Obj)) (s : Shared) (σ : Sg) (H : Hp) (Q : Bool → Hp → Prop), Inv X pins σ H s → t σ H Q → wpAny (model X.prog X.w) X.A (testsOf ifs X.env true) (TP X pins σ Q) X.xe s
/-- one turn, by the data -/
def Stp (K : PySem.W.Frag) (t : Tg) (cs : Ev → Hh → Rs Bool) (f : Ev → Hh → Rs D) (n0 : Nat) (h' : Hh) (J : It) (Lp : Nat → Nat → Ev → Hh → Prop) (i k : Nat) (r : Ev) (h : Hh) (m : List Addr) (H : Hp) : Prop :=
  (J.stop i H ∧ h = h') ∨ (J.go i H ∧ ∃ d, (∀ x H2, J.yld i H x H2 → Gr K m H m H2 ∧ Wd K m h H2 ∧ RD K m H2 d x) ∧ ∃ r1, setT t d r = some r1 ∧ ∃ b h1, cs r1 h = .ok b h1 ∧
    if b = true then ∃ y h2 z h3, f r1 h1 = .ok y h2 ∧ appD (.ref n0) y h2 = .ok z h3 ∧ ∃ k', k' < k ∧ Lp (i + 1) k' r1 h3 else ∃ k', k' < k ∧ Lp (i + 1) k' r1 h1)
section
variable {X : Cx} {G : Gs} {ca : Nat → Addr} {cl : Cl} {N' : List Str} {scope : Scope} {cap : List Nat} {tg elt iter : PySem.Expr} {ifs : List PySem.Expr} {pos : Pos} {t : Tg} {ft : Ev → Hh → Rs Bool} {fe : Ev → Hh → Rs D}
theorem blockE_rel {K : PySem.W.Frag} {m : List Addr} {H : Hp} {r : Ev} {σ : Sg} (st : RSt K m H r σ) : RSt K m H (blockE N' cap r) (blkS N' cap σ) := by
  refine ⟨by simp [blockE, blkS], fun i d e => ?_⟩
  unfold blockE at e
  unfold blkS
  by_cases hi : i < N'.length - cap.length
  · rw [List.getElem?_append_left (by simpa using hi), List.getElem?_replicate] at e
    split at e <;> cases e
  · rw [List.getElem?_append_right (by simpa using hi), List.length_replicate, List.getElem?_map] at e
    rw [List.getElem?_append_right (by simpa using hi), List.length_replicate, List.getElem?_map]
    cases ec : cap[i - (N'.length - cap.length)]? with
    | none => rw [ec] at e; cases e
    | some j =>
      rw [ec] at e
      have e' : capV r j = some d := Option.some.inj e
      have hr : r[j]? = some (some d) := by
        unfold capV at e'
        cases q : r[j]? with
        | none => rw [q] at e'; cases e'
        | some y => rw [q] at e'; exact congrArg some e'
      obtain ⟨v, hv, rv⟩ := st.2 j d hr
      refine ⟨v, ?_, rv⟩
      show some (match σ[j]? with | some x => x | none => none) = some (some v)
      rw [hv]
theorem comp_core {pins : List (Addr × Obj)} {σ : Sg} {H2 : Hp} {s2 : Shared} {J : It} {fp : List Addr} {it : Addr} {tn : Nat → Heap → Prop} {m2 : List Addr} {h2 h' : Hh} {r : Ev} (S : ScOk scope X.env.scope) (hcap : cap.length ≤ N'.length)
    (hN : (N'.drop (N'.length - cap.length)).map some = cap.map (fun (i : Nat) => X.N[i]?)) (hfr : ∀ x ∈ N'.drop (N'.length - cap.length), scope.names.lookup x = some .free) (calm : X.calm = true)
    (blk : ∀ (C : Addr) (s3 : Shared) (H3 : Hp) (fp : List Addr), PG (blkX X N' scope C s3 H3 fp) tg (TDG X.K t) ∧ PTs (blkX X N' scope C s3 H3 fp) ifs (TDB X.K ft) ∧ PE (blkX X N' scope C s3 H3 fp) elt (TDE X.K fe))
    (I : Inv X pins σ H2 s2) (T : Turn X.prog X.w X.K tg J fp it tn) (st : tn 0 s2.heap) (fok : ∀ b ∈ fp, FpOk X pins H2 b) (w2 : Wd X.K m2 h2 H2) (rst : RSt X.K m2 H2 r σ)
    (Lp : Nat → Nat → Ev → Hh → Prop) (k0 : Nat) (L0 : Lp 0 k0 (blockE N' cap r) (h2 ++ [.lst []])) (hst : ∀ i k r h m H, Gr X.K m2 H2 m H → Wd X.K m h H → Lp i k r h → Stp X.K t ft fe h2.length h' J Lp i k r h m H)
    {Rr : Value → Addr → Result → Shared → Prop}
    (c : ∀ (acc C : Addr) (s1 : Shared) (H' : Hp) (m' : List Addr), Inv X pins σ H' s1 → (∃ mm, s1.heap.Ns C mm) → H' C = none → C ≠ X.env.locals → X.s₀.heap.objs.size ≤ C → (∀ x a, X.env.cells.lookup x = some a → a ≠ C) → (∀ p ∈ X.pn ++ pins, p.1 ≠ C) → Gr X.K m2 H2 m' H' → Wd X.K m' h' H' → RD X.K m' H' (.ref h2.length) (.ref acc) → Rr (.ref acc) C (.ok .next) s1) :
    wpAny (model X.prog X.w) X.A (newList []) (fun acc s3 => wpAny (model X.prog X.w) X.A (newFunctionEnv scope X.env.globals (clOf scope X.env) [] X.env.qual none .none (some X.env)) (fun cenv s4 =>
      codeAny (model X.prog X.w) X.A (.compStart (.ListComp elt [⟨tg, iter, ifs, 0⟩] scope pos) 0 (.ref it) acc { cenv with scope := relabel scope X.env }) (Rr acc cenv.locals) s4) X.xe s3) X.xe s2 := by
  -- the iterator's objects stand in the heap, and none of them is the module's
  have fob : ∀ b ∈ fp, b < s2.heap.objs.size := fun b hb => let ⟨o, e, _⟩ := T.obj 0 _ st b hb; Heap.lt_size e
  have ffb : ∀ b ∈ fp, ∀ o, X.base.get? b ≠ some o := fun b hb o e => by
    rcases (fok b hb).2.2.2.1 with z | z
    · exact I.ok.noex b o e z
    · exact absurd (Nat.lt_of_lt_of_le (Heap.lt_size (I.ok.bs b o e).1) z) (Nat.lt_irrefl _)
  have hacc0 : H2 s2.heap.objs.size = none := I.hok.fresh (Nat.le_refl _)
  refine wpAny_newObj_type (wpAny_newBlockEnv (fun h1 hns keep cok => ?_))
  dsimp only at hns keep cok ⊢
  -- the list is laid
  obtain ⟨w3, g3⟩ := w2.lstNew (ds := []) (vs := []) hacc0 .nil
  have I3 : Inv X pins σ (upd H2 s2.heap.objs.size (.lst [])) { s2 with heap := s2.heap.push { cls := .type "list", dict := none, data := .seq ([] : List Value).toArray } } :=
    I.laid (t' := s2.toks) (fun b u e => Heap.get?_push_of_some _ e) (Nat.le_refl _) ⟨Nat.zero_le _, [], 0, .nil, Heap.get?_push_size _ rfl⟩
  have fok3 : ∀ b ∈ fp, FpOk X pins (upd H2 s2.heap.objs.size (.lst [])) b := fun b hb => ⟨by rw [upd_ne (Nat.ne_of_lt (fob b hb))]; exact (fok b hb).1, (fok b hb).2⟩
  have st3 : tn 0 h1 := T.keep _ _ _ st fun b hb o e => keep b o (Heap.get?_push_of_some _ e)
  have B := bcs_ok (env := X.env) S (fun x c e => let ⟨_, q⟩ := I3.cell x c e; q.lt) cok
  have I4 := blk_start (N' := N') (scope := scope) (fp := fp) (cap := cap) I3 S hcap hN hfr (h1 := h1) (tk := s2.toks) hns keep B fok3 (fun b hb => by
    show b < (s2.heap.push _).objs.size
    rw [Heap.size_push]; exact Nat.lt_succ_of_lt (fob b hb)) ffb
  have hsz : (s2.heap.push { cls := .type "list", dict := none, data := .seq ([] : List Value).toArray }).objs.size = s2.heap.objs.size + 1 := Heap.size_push ..
  generalize hs3 : ({ s2 with heap := s2.heap.push { cls := .type "list", dict := none, data := .seq ([] : List Value).toArray } } : Shared) = s3 at I3 I4
  have eh3 : s2.heap.push { cls := .type "list", dict := none, data := .seq ([] : List Value).toArray } = s3.heap := by rw [← hs3]
  rw [eh3] at hns keep cok B hsz ⊢
  generalize hH3 : upd H2 s2.heap.objs.size (.lst []) = H3 at I3 I4 w3 g3 fok3
  obtain ⟨bG, bT, bE⟩ := blk s3.heap.objs.size s3 H3 fp
  have ha : (m2 ++ [s2.heap.objs.size])[h2.length]? = some s2.heap.objs.size := by rw [← w2.len]; simp
  have stkN : ∀ b, b ≠ X.env.locals → b ∉ X.fs → b ∉ frs X.stack := fun b h1 h2 hb => (List.mem_cons.mp (I3.stkSub b hb)).elim h1 h2
  -- the iterator's objects, seen from the block
  have fokB : ∀ {H : Hp}, (∀ b ∈ fp, H b = none) → ∀ b ∈ fp, FpOk (blkX X N' scope s3.heap.objs.size s3 H3 fp) [] H b := fun hn b hb =>
    ⟨hn b hb, Nat.ne_of_lt (by rw [hsz]; exact Nat.lt_succ_of_lt (fob b hb)), stkN b (fok b hb).2.1 (fok b hb).2.2.1, .inl hb, fun x c e => (B.inv x c e).elim (fun a => (fok b hb).2.2.2.2.1 x c (clOf_lookup a)) (fun a => Nat.ne_of_gt (Nat.lt_trans (by rw [hsz]; exact Nat.lt_succ_of_lt (fob b hb)) a.1)), fun p hp => absurd (show p ∈ ([] : List (Addr × Obj)) from hp) (by simp)⟩
  have hw : X.w = X.w := rfl
  have loop : ∀ s4 : Shared, s4 = { s3 with heap := h1, toks := s2.toks } → codeAny (model X.prog X.w) X.A (.compLoop (.ListComp elt [⟨tg, iter, ifs, 0⟩] scope pos) 0 (.ref it) (.ref s2.heap.objs.size) (compEnvC scope (bcs scope X.env s3.heap.objs.size) s3.heap.objs.size X.env)) (Rr (.ref s2.heap.objs.size) s3.heap.objs.size) s4 := by
    rintro s4 rfl
    refine comp_loop (fun k s => ∃ i σ' H' m r h, Inv (blkX X N' scope s3.heap.objs.size s3 H3 fp) [] σ' H' s ∧ tn i s.heap ∧ (∀ b ∈ fp, H' b = none) ∧ Gr X.K (m2 ++ [s2.heap.objs.size]) H3 m H' ∧ Wd X.K m h H' ∧ RSt X.K m H' r σ' ∧ Lp i k r h) ?_ k0
      ⟨0, _, H3, _, _, _, I4, st3, fun b hb => (fok3 b hb).1, .refl, w3, blockE_rel (rst.mono g3), L0⟩
    rintro k s ⟨i, σ', H', m, r', h, I', st', fr', g', w', rst', L⟩
    rcases hst i k r' h m H' (g3.trans g') w' L with ⟨stop, rfl⟩ | ⟨go, d, hy, r1, er, b, hb1, eb, rest⟩
    · refine thn (T.done (blkX X N' scope s3.heap.objs.size s3 H3 fp) rfl rfl rfl calm i [] s σ' H' nev I' (fokB fr') st' stop) fun res s1 ⟨hr, I1⟩ => ?_
      subst hr
      obtain ⟨mm, hn1, _⟩ := id I1.loc
      obtain ⟨hp1, gg, dr, tk, os⟩ := s1
      obtain rfl : os = s3.os := I1.os
      have IX : Inv X pins σ H' { s3 with heap := hp1, gens := gg, drawn := dr, toks := tk } := I3.call (ch := fp) I1.base I1.hok I1.bare fun b hb => ⟨(fok3 b hb).2.2.2.1, (fok3 b hb).2.1, (fok3 b hb).2.2.2.2.1, (fok3 b hb).2.2.2.2.2⟩
      exact c _ _ _ H' m IX ⟨mm, hn1⟩ I1.free (Nat.ne_of_gt I3.lt) I3.sz (fun x a e => by
        obtain ⟨v, q⟩ := I3.cell x a e
        exact Nat.ne_of_lt q.lt) (fun p hp => Nat.ne_of_lt (Heap.lt_size (I3.pin p hp).1)) (g3.trans g') w' (.ref (g'.pre _ _ ha))
    · refine thn (T.item (blkX X N' scope s3.heap.objs.size s3 H3 fp) rfl rfl rfl calm i [] s σ' H' nev I' (fokB fr') st' go) fun res s1 ⟨u, hr, q1⟩ => ?_
      subst hr
      refine thn q1 fun _ s5 ⟨x, H5, I5, rx, yl, st5, fr5⟩ => ?_
      obtain ⟨gy, wy, rd⟩ := hy x H5 yl
      have I5' := I5.pinned (fokB fr5) (T.obj _ _ st5)
      have again : ∀ {σ7 : Sg} {H7 : Hp} {s7 : Shared} {m7 : List Addr} {r7 : Ev} {h7 : Hh}, Inv (blkX X N' scope s3.heap.objs.size s3 H3 fp) ([] ++ pinsAt fp s5.heap) σ7 H7 s7 → Gr X.K m H5 m7 H7 → Wd X.K m7 h7 H7 → RSt X.K m7 H7 r7 σ7 → (∃ k', k' < k ∧ Lp (i + 1) k' r7 h7) →
          ∃ k', k' < k ∧ ∃ i σ' H' m r h, Inv (blkX X N' scope s3.heap.objs.size s3 H3 fp) [] σ' H' s7 ∧ tn i s7.heap ∧ (∀ b ∈ fp, H' b = none) ∧ Gr X.K (m2 ++ [s2.heap.objs.size]) H3 m H' ∧ Wd X.K m h H' ∧ RSt X.K m H' r σ' ∧ Lp i k' r h := fun {σ7 H7 s7 m7 r7 h7} I7 g7 w7 st7 ⟨k', hk, L7⟩ => by
        have pn : ∀ b ∈ fp, ∀ o, s5.heap.get? b = some o → s7.heap.get? b = some o ∧ H7 b = none := fun b hb o e => let z := I7.pin (b, o) (List.mem_append_right _ (List.mem_append_right _ (mem_pinsAt hb e))); ⟨z.1, z.2.1⟩
        exact ⟨k', hk, i + 1, σ7, H7, m7, r7, h7, I7.unpinned, T.keep _ _ _ st5 fun b hb o e => (pn b hb o e).1, fun b hb => let ⟨o, e, _⟩ := T.obj _ _ st5 b hb; (pn b hb o e).2, g'.trans (gy.trans g7), w7, st7, L7⟩
      refine thn (bG _ s5 σ' H5 x u (fun σ2 H6 => H6 = H5 ∧ RSt X.K m H5 r1 σ2) I5' rx ⟨m, h, r', d, r1, wy, rst'.mono gy, rd, er, fun s' z => ⟨rfl, z⟩⟩) fun _ s6 ⟨σ6, H6, I6, eH6, st6⟩ => ?_
      subst eH6
      refine thn (bT _ s6 σ6 H6 (fun b' H7 => b' = b ∧ ∃ m7, Gr X.K m H6 m7 H7 ∧ Wd X.K m7 hb1 H7) I6 ⟨m, r1, h, b, hb1, wy, st6, eb, fun m' H' g w => ⟨rfl, m', g, w⟩⟩) fun b' s7 ⟨H7, I7, e7, m7, g7, w7⟩ => ?_
      subst e7
      cases b' with
      | false =>
        rw [if_neg Bool.false_ne_true] at rest ⊢
        exact again I7 g7 w7 (st6.mono g7) rest
      | true =>
        rw [if_pos rfl] at rest ⊢
        obtain ⟨y, h8, z, h9, ey, ea, rest⟩ := rest
        refine thn (bE _ s7 σ6 H7 (fun v H8 => ∃ m8, Gr X.K m7 H7 m8 H8 ∧ Wd X.K m8 h8 H8 ∧ RD X.K m8 H8 y v) I7 ⟨m7, r1, hb1, y, h8, w7, st6.mono g7, ey, fun m' v H' g w rv => ⟨m', g, w, rv⟩⟩) fun yv s8 ⟨v, H8, I8, rv, m8, g8, w8, rdy⟩ => ?_
        have ha8 : m8[h2.length]? = some s2.heap.objs.size := g8.pre _ _ (g7.pre _ _ (gy.pre _ _ (g'.pre _ _ ha)))
        simp only [appD] at ea
        split at ea <;> first | (cases ea; done) | skip
        rename_i l el
        split at ea <;> first | (cases ea; done) | skip
        rename_i hlen
        cases ea
        obtain ⟨vs, hv, rvs⟩ : ∃ vs, H8 s2.heap.objs.size = some (.lst vs) ∧ RDs X.K m8 H8 l vs := w8.ob _ _ _ el ha8
        obtain ⟨_, w9, g9⟩ := w8.lstSet el ha8 (rvs.append (.cons rdy .nil))
        refine thn (mt_append (X := blkX X N' scope s3.heap.objs.size s3 H3 fp) _ s8 σ6 H8 (.ref s2.heap.objs.size) [v] (.ref s2.heap.objs.size) [yv] (fun _ H9 => H9 = upd H8 s2.heap.objs.size (.lst (vs ++ [v]))) I8 rfl (.cons rv .nil) ⟨_, vs, v, rfl, rfl, hv, by rw [← rvs.length]; exact Nat.lt_of_lt_of_le hlen (by decide), rfl⟩) fun _ s9 ⟨_, H9, I9, _, e9⟩ => ?_
        subst e9
        exact again I9 ((g7.trans g8).trans g9) w9 (st6.mono ((g7.trans g8).trans g9)) rest
  have es : ({ s2 with heap := h1, toks := s2.toks } : Shared) = { s3 with heap := h1, toks := s2.toks } := by subst hs3; rfl
  exact codeAny_compStart_list (loop _ es) (T.self X.A 0 _ _ _ st3 (loop _ es))
end
end Ng
end
section
set_option Elab.async false
set_option linter.all false
set_option maxRecDepth 100000
set_option maxHeartbeats 4000000
set_option autoImplicit false
namespace Ng
open PySem PySem.Spec PyProof.Rows L2
theorem _root_.L2.PG.wk {X : Cx} {e : PySem.Expr} {t t' : TG} (h : PG X e t) (i : ∀ v s H Q, t' v s H Q → t v s H Q) : PG X e t' := fun pins s σ H v u Q I r q => h pins s σ H v u Q I r (i _ _ _ _ q)
def gAll (is : List Nat) : TGs := fun vs s H Q => ∃ (K : PySem.W.Frag) (m : List Addr) (r : Ev) (ds : List D), RSt K m H r s ∧ RDs K m H ds vs ∧ ds.length = is.length ∧ ∀ s', RSt K m H (setAll is ds r) s' → Q s' H
section
variable {X : Cx} {N : List Str} {sc : Scope} {G : Gs} {ca : Nat → Addr} {cl : Cl} {K : PySem.W.Frag}
/-- targets, by what a name of theirs may be stored as -/
theorem pgsP (ok : PySem.Expr → Nat → Bool) (hok : ∀ e i, ok e i = true → ∃ x pos, e = .Name x pos ∧ PG X (.Name x pos) (gName i)) : ∀ {is : List Nat} {es : List PySem.Expr}, is.length = es.length → (∀ (j : Nat) i e, is[j]? = some i → es[j]? = some e → ok e i = true) → PGs X es (gAll is) ∧ (assignEach es X.env).length = is.length ∧ (assignEach es X.env).findIdx? (·.1) = none
  | [], [], _, _ => ⟨fun pins s σ H vs us Q I rv ⟨K, m, r, ds, st, rd, hl, c⟩ => by
      cases ds with
      | cons => cases hl
      | nil =>
        cases rd
        exact pgs_nil pins s σ H [] us Q I rv ⟨rfl, c _ st⟩, rfl, rfl⟩
  | i :: is, e :: es, hl, h => by
    obtain ⟨x, pos, rfl, pn⟩ := hok e i (h 0 i e rfl rfl)
    obtain ⟨ih, i2, i3⟩ := pgsP ok hok (is := is) (es := es) (by simpa using hl) fun j i e e1 e2 => h (j + 1) i e (by simpa using e1) (by simpa using e2)
    refine ⟨fun pins s σ H vs us Q I rv ⟨K, m, r, ds, st, rd, hl, c⟩ => ?_, ?_, ?_⟩
    · cases ds with
      | nil => cases hl
      | cons d ds =>
        cases rd with
        | cons r1 rd =>
          exact pgs_cons pn ih rfl pins s σ H _ us Q I rv ⟨_, _, rfl, K, m, _, ds, st.set i r1, rd, by simpa using hl, c⟩
    · show (assignEach es X.env).length + 1 = is.length + 1
      rw [i2]
    · show ((false, assign (.Name x pos) X.env) :: assignEach es X.env).findIdx? (·.1) = none
      rw [List.findIdx?_cons]
      simp [i3]
  | [], _ :: _, hl, _ => by simp at hl
  | _ :: _, [], hl, _ => by simp at hl
theorem pgT_of (ok : PySem.Expr → Nat → Bool) (hok : ∀ e i, ok e i = true → ∃ x pos, e = .Name x pos ∧ PG X (.Name x pos) (gName i)) (calm : X.calm = true) {t : Tg} {tg : PySem.Expr}
    (h : match t with | .nm i => ok tg i = true | .tp l => ∃ es k pos, tg = .Tuple es k pos ∧ l.length = es.length ∧ ∀ (j : Nat) i e, l[j]? = some i → es[j]? = some e → ok e i = true) : PG X tg (TDG X.K t) := by
  cases t with
  | nm i =>
    obtain ⟨x, pos, rfl, pn⟩ := hok tg i h
    refine pn.wk fun v s H Q ⟨m, hh, r, d, r', w, st, rd, e, c⟩ => ?_
    cases e
    exact c _ (st.set i rd)
  | tp l =>
    obtain ⟨es, k, pos, rfl, hl, h⟩ := h
    obtain ⟨p1, p2, p3⟩ := pgsP ok hok hl h
    refine (pg_tup calm p1 p2 p3).wk fun v s H Q ⟨m, hh, r, d, r', w, st, rd, e, c⟩ => ?_
    cases rd <;> first | (cases e; done) | skip
    rename_i a ds vs hq q _
    simp only [setT] at e
    split at e
    · rename_i hl
      cases e
      exact ⟨a, vs, rfl, hq, by rw [← q.length]; exact hl, X.K, m, r, ds, st, q, hl, c⟩
    · cases e
theorem chkNs'_of : ∀ {l : List Nat} {es : List PySem.Expr}, chkNs' N sc l es = true → l.length = es.length ∧ ∀ (j : Nat) i e, l[j]? = some i → es[j]? = some e → chkT' N sc (.nm i) e = true
  | [], [], _ => ⟨rfl, fun j i e h => by simp at h⟩
  | i :: is, e :: es, h => by
    cases e <;> first | exact absurd (show false = true from h) Bool.false_ne_true | skip
    rename_i x pos
    have h' : (N[i]? == some x && locB sc x && chkNs' N sc is es) = true := h
    rw [Bool.and_eq_true] at h'
    obtain ⟨i1, i2⟩ := chkNs'_of h'.2
    refine ⟨by simp [i1], fun j i' e' e1 e2 => ?_⟩
    cases j with
    | zero =>
      simp at e1 e2
      subst e1; subst e2
      exact h'.1
    | succ j => exact i2 j i' e' (by simpa using e1) (by simpa using e2)
  | [], _ :: _, h => absurd (show false = true from h) Bool.false_ne_true
  | _ :: _, [], h => absurd (show false = true from h) Bool.false_ne_true
abbrev LocOk (X : Cx) (scope : Scope) : Prop := ∀ x, locB scope x = true → Loc X.env.scope x ∧ (X.fn x = true ∨ X.env.scope.names.lookup x = some .local)
theorem pgT' {scope : Scope} (xo : XOk X N sc) (lo : LocOk X scope) {t : Tg} {tg : PySem.Expr} (h : chkT' N scope t tg = true) : PG X tg (TDG X.K t) := by
  refine pgT_of (fun e i => chkT' N scope (.nm i) e) (fun e i he => ?_) xo.calm ?_
  · cases e <;> first | exact absurd (show false = true from he) Bool.false_ne_true | skip
    rename_i x pos
    have h' : (N[i]? == some x && locB scope x) = true := he
    simp only [Bool.and_eq_true, beq_iff_eq] at h'
    obtain ⟨l1, l2⟩ := lo x h'.2
    exact ⟨x, pos, rfl, pg_name xo.nd (by rw [xo.n]; exact h'.1) l1 l2⟩
  · cases t with
    | nm i => exact h
    | tp l =>
      cases tg <;> first | exact absurd (show false = true from h) Bool.false_ne_true | skip
      rename_i es k pos
      obtain ⟨h1, h2⟩ := chkNs'_of (show chkNs' N scope l es = true from h)
      exact ⟨es, k, pos, rfl, h1, h2⟩
section
variable {t : Tg} {ft : Ev → Hh → Rs Bool} {fe : Ev → Hh → Rs D} {n0 : Nat} {h' : Hh} {J : It} {m2 : List Addr} {H2 : Hp} {r0 : Ev} {h0 : Hh}
abbrev Turns (K : PySem.W.Frag) (t : Tg) (ft : Ev → Hh → Rs Bool) (fe : Ev → Hh → Rs D) (n0 : Nat) (h' : Hh) (J : It) (m2 : List Addr) (H2 : Hp) (r0 : Ev) (h0 : Hh) : Prop := ∃ (Lp : Nat → Nat → Ev → Hh → Prop) (k0 : Nat), Lp 0 k0 r0 h0 ∧ ∀ i k r h m H, Gr K m2 H2 m H → Wd K m h H → Lp i k r h → Stp K t ft fe n0 h' J Lp i k r h m H
theorem turns_static {l : List D} (e : compS t ft fe n0 l r0 h0 = .ok () h') (hgo : ∀ (i : Nat) d m H, Gr K m2 H2 m H → l[i]? = some d → J.go i H ∧ ∀ x H', J.yld i H x H' → H' = H ∧ RD K m H d x) (hstop : ∀ (i : Nat) m H, Gr K m2 H2 m H → l.length ≤ i → J.stop i H) : Turns K t ft fe n0 h' J m2 H2 r0 h0 := by
  refine ⟨fun i k r h => k = l.length - i ∧ compS t ft fe n0 (l.drop i) r h = .ok () h', l.length, ⟨by simp, e⟩, fun i k r h m H g w ⟨hk, e⟩ => ?_⟩
  by_cases hi : i < l.length
  · have ed : l[i]? = some l[i] := List.getElem?_eq_getElem hi
    obtain ⟨a, b⟩ := hgo i _ m H g ed
    rw [List.drop_eq_getElem_cons hi] at e
    simp only [compS] at e
    split at e
    · cases e
    · rename_i r1 er
      obtain ⟨bb, h1, e1, e⟩ := Rs.bind_ok e
      refine .inr ⟨a, _, fun x H2 y => by obtain ⟨eH, rd⟩ := b x H2 y; subst eH; exact ⟨.refl, w, rd⟩, r1, er, bb, h1, e1, ?_⟩
      cases bb with
      | true =>
        rw [if_pos rfl] at e ⊢
        obtain ⟨y, h3, e3, e⟩ := Rs.bind_ok e
        obtain ⟨z, h4, e4, e⟩ := Rs.bind_ok e
        exact ⟨y, h3, z, h4, e3, e4, _, by omega, rfl, e⟩
      | false =>
        rw [if_neg Bool.false_ne_true] at e ⊢
        exact ⟨_, by omega, rfl, e⟩
  · rw [List.drop_eq_nil_of_le (by omega)] at e
    cases e
    exact .inl ⟨hstop i m H g (by omega), rfl⟩
theorem turns_tup {a : Addr} {l : List D} {vs : List V} (hq : SqT K H2 a vs) (q : RDs K m2 H2 l vs) (e : compS t ft fe n0 l r0 h0 = .ok () h') : Turns K t ft fe n0 h' (Itt K a) m2 H2 r0 h0 :=
  turns_static e (fun i d m H g ed => by
    obtain ⟨v, hv, rv⟩ := q.get ed
    exact ⟨⟨vs, v, g.tup _ _ hq, hv⟩, fun x H' y => by
      obtain ⟨eH, y⟩ := y
      have := y vs (g.tup _ _ hq)
      rw [hv] at this; cases this
      exact ⟨eH, rv.mono g⟩⟩) fun i m H g hi => ⟨vs, g.tup _ _ hq, by rw [← q.length]; exact hi⟩
theorem turns_rng {lo hi : Int} (e : compS t ft fe n0 (rngD lo hi) r0 h0 = .ok () h') : Turns K t ft fe n0 h' (Itr lo (hi - lo).toNat) m2 H2 r0 h0 := by
  have hl : (rngD lo hi).length = (hi - lo).toNat := by unfold rngD; simp
  refine turns_static e (fun i d m H g ed => ?_) fun i m H g h => by rw [hl] at h; exact h
  have hi' : i < (hi - lo).toNat := by rw [← hl]; exact (List.getElem?_eq_some_iff.mp ed).1
  have hd : (rngD lo hi)[i]? = some (D.int (lo + i)) := by
    unfold rngD
    rw [List.getElem?_map, List.getElem?_range hi']
    rfl
  rw [hd] at ed; cases ed
  exact ⟨hi', fun x H' y => ⟨y.1, by rw [y.2]; exact .int _⟩⟩
theorem turns_lst {a : Addr} {n k0 : Nat} (ha : m2[n]? = some a) (e : compI t ft fe n0 n k0 0 r0 h0 = .ok () h') : Turns K t ft fe n0 h' (Itl K a) m2 H2 r0 h0 := by
  refine ⟨fun i k r h => compI t ft fe n0 n k i r h = .ok () h', k0, e, fun i k r h m H g w e => ?_⟩
  cases k with
  | zero => cases e
  | succ k =>
    simp only [compI] at e
    split at e
    · cases e
    · rename_i l el
      obtain ⟨a', vs, ha', hq, q⟩ := w.lst el
      rw [g.pre _ _ ha] at ha'; cases ha'
      split at e
      · rename_i en
        cases e
        exact .inl ⟨⟨vs, hq, by rw [← q.length]; exact List.getElem?_eq_none_iff.mp en⟩, rfl⟩
      · rename_i d ed
        obtain ⟨v, hv, rv⟩ := q.get ed
        split at e
        · cases e
        · rename_i r1 er
          obtain ⟨bb, h1, e1, e⟩ := Rs.bind_ok e
          refine .inr ⟨⟨vs, v, hq, hv⟩, d, fun x H' y => ?_, r1, er, bb, h1, e1, ?_⟩
          · obtain ⟨eH, y⟩ := y
            have := y vs hq
            rw [hv] at this; cases this
            subst eH
            exact ⟨.refl, w, rv⟩
          · cases bb with
            | true =>
              rw [if_pos rfl] at e ⊢
              obtain ⟨y, h3, e3, e⟩ := Rs.bind_ok e
              obtain ⟨z, h4, e4, e⟩ := Rs.bind_ok e
              exact ⟨y, h3, z, h4, e3, e4, k, Nat.lt_succ_self _, e⟩
            | false =>
              rw [if_neg Bool.false_ne_true] at e ⊢
              exact ⟨k, Nat.lt_succ_self _, e⟩
/-- a walk over what does not change, its items laid as they come -/
theorem turns_laid {l : List D} (e : compS t ft fe n0 l r0 h0 = .ok () h') (hgo : ∀ (i : Nat) d m h H, Gr K m2 H2 m H → Wd K m h H → l[i]? = some d → J.go i H ∧ ∀ x H', J.yld i H x H' → Gr K m H m H' ∧ Wd K m h H' ∧ RD K m H' d x) (hstop : ∀ (i : Nat) m H, Gr K m2 H2 m H → l.length ≤ i → J.stop i H) : Turns K t ft fe n0 h' J m2 H2 r0 h0 := by
  refine ⟨fun i k r h => k = l.length - i ∧ compS t ft fe n0 (l.drop i) r h = .ok () h', l.length, ⟨by simp, e⟩, fun i k r h m H g w ⟨hk, e⟩ => ?_⟩
  by_cases hi : i < l.length
  · have ed : l[i]? = some l[i] := List.getElem?_eq_getElem hi
    obtain ⟨a, b⟩ := hgo i _ m h H g w ed
    rw [List.drop_eq_getElem_cons hi] at e
    simp only [compS] at e
    split at e
    · cases e
    · rename_i r1 er
      obtain ⟨bb, h1, e1, e⟩ := Rs.bind_ok e
      refine .inr ⟨a, _, b, r1, er, bb, h1, e1, ?_⟩
      cases bb with
      | true =>
        rw [if_pos rfl] at e ⊢
        obtain ⟨y, h3, e3, e⟩ := Rs.bind_ok e
        obtain ⟨z, h4, e4, e⟩ := Rs.bind_ok e
        exact ⟨y, h3, z, h4, e3, e4, _, by omega, rfl, e⟩
      | false =>
        rw [if_neg Bool.false_ne_true] at e ⊢
        exact ⟨_, by omega, rfl, e⟩
  · rw [List.drop_eq_nil_of_le (by omega)] at e
    cases e
    exact .inl ⟨hstop i m H g (by omega), rfl⟩
end
/-- [elt for tg in iter if ..] -/
theorem comp_pe {N' : List Str} {scope : Scope} {cap : List Nat} {tg elt iter : PySem.Expr} {ifs : List PySem.Expr} {pos : Pos} {t : Tg} {ft : Ev → Hh → Rs Bool} {fe : Ev → Hh → Rs D} {f : Ev → Hh → Rs D} (xo : XOk X N sc) (S : ScOk scope sc) (hcap : cap.length ≤ N'.length)
    (hN : (N'.drop (N'.length - cap.length)).map some = cap.map (fun (i : Nat) => N[i]?)) (hfr : ∀ x ∈ N'.drop (N'.length - cap.length), scope.names.lookup x = some .free)
    (blk : ∀ (C : Addr) (s3 : Shared) (H3 : Hp) (fp : List Addr), PG (blkX X N' scope C s3 H3 fp) tg (TDG X.K t) ∧ PTs (blkX X N' scope C s3 H3 fp) ifs (TDB X.K ft) ∧ PE (blkX X N' scope C s3 H3 fp) elt (TDE X.K fe)) (hset : noSet iter = true)
    (hi : ∀ (pins : List (Addr × Obj)) (s : Shared) (σ : Sg) (H : Hp) (m : List Addr) (r : Ev) (h : Hh) (d : D) (h' : Hh), Inv X pins σ H s → Wd X.K m h H → RSt X.K m H r σ → f r h = .ok d h' → ∃ h1 : Hh, d = .ref h1.length ∧ wpAny (model X.prog X.w) X.A (eval iter X.env) (fun v s1 => wpAny (model X.prog X.w) X.A (pyIter v)
      (PIE X pins σ tg fun J H2 => ∃ (m2 : List Addr) (h2 : Hh), h2.length = h1.length ∧ Gr X.K m H m2 H2 ∧ Wd X.K m2 h2 H2 ∧ Turns X.K t ft fe h2.length h' J m2 H2 (blockE N' cap r) (h2 ++ [.lst []])) X.xe s1) X.xe s) :
    PE X (.ListComp elt [⟨tg, iter, ifs, 0⟩] scope pos) (TDE X.K f) := by
  intro pins s σ H Q I ⟨m, r, h, d, h', w, st, e, c⟩
  obtain ⟨h1, rfl, hw⟩ := hi pins s σ H m r h d h' I w st e
  rw [eval_ListComp]
  have S' : ScOk scope X.env.scope := by rw [xo.s]; exact S
  refine wpAny_comprehension_free (use := none) rfl (fun z => by cases iter <;> first | rfl | (cases hset; done)) (closure_is fun p hp e => I.ok.has p.1 (.inl (S'.free p hp e))) S.kind S.loc ?_
  refine thn hw fun v s1 q1 => thn q1 fun itv s2 q2 => ?_
  obtain ⟨it, fp, tn, J, H2, rfl, I2, T, st2, fok, m2, h2, eh2, g2, w2, Lp, k0, L0, hst⟩ := q2
  refine comp_core (Rr := fun acc C => compPost (model X.prog X.w) X.A X.xe none (EP X pins σ Q) acc C) S' hcap (by rw [xo.n]; exact hN) hfr xo.calm blk I2 T st2 fok w2 (st.mono g2) Lp k0 L0 hst fun acc C s1 H' m' I1 ⟨mm, hn⟩ hC hL hz hc hp g' w' rv => ?_
  rw [eh2] at rv
  refine ⟨mm, hn, fun hh hsb => ⟨.ref acc, H', I1.turned (fun b o hb e => hsb.extBut b o hb e) hC (Ne.symm (Ne.symm hL)) (.inr hz) hc hp, rfl, c m' _ H' (g2.trans g') w' rv⟩⟩
/-- name = [elt for tg in iter if ..], all of it on one row -/
theorem comp_ps {N' : List Str} {scope : Scope} {cap : List Nat} {tg elt iter : PySem.Expr} {ifs : List PySem.Expr} {pos spos py : Pos} {y : Str} {i : Nat} {t : Tg} {ft : Ev → Hh → Rs Bool} {fe : Ev → Hh → Rs D} {f : Ev → Hh → Rs D} (xo : XOk X N sc) (S : ScOk scope sc) (hcap : cap.length ≤ N'.length)
    (hN : (N'.drop (N'.length - cap.length)).map some = cap.map (fun (i : Nat) => N[i]?)) (hfr : ∀ x ∈ N'.drop (N'.length - cap.length), scope.names.lookup x = some .free)
    (blk : ∀ (C : Addr) (s3 : Shared) (H3 : Hp) (fp : List Addr), PG (blkX X N' scope C s3 H3 fp) tg (TDG X.K t) ∧ PTs (blkX X N' scope C s3 H3 fp) ifs (TDB X.K ft) ∧ PE (blkX X N' scope C s3 H3 fp) elt (TDE X.K fe)) (hset : noSet iter = true)
    (hi : ∀ (pins : List (Addr × Obj)) (s : Shared) (σ : Sg) (H : Hp) (m : List Addr) (r : Ev) (h : Hh) (d : D) (h' : Hh), Inv X pins σ H s → Wd X.K m h H → RSt X.K m H r σ → f r h = .ok d h' → ∃ h1 : Hh, d = .ref h1.length ∧ wpAny (model X.prog X.w) X.A (eval iter X.env) (fun v s1 => wpAny (model X.prog X.w) X.A (pyIter v)
      (PIE X pins σ tg fun J H2 => ∃ (m2 : List Addr) (h2 : Hh), h2.length = h1.length ∧ Gr X.K m H m2 H2 ∧ Wd X.K m2 h2 H2 ∧ Turns X.K t ft fe h2.length h' J m2 H2 (blockE N' cap r) (h2 ++ [.lst []])) X.xe s1) X.xe s)
    (hy : N[i]? = some y) (hl : sc.names.lookup y = some .local) (hsw : swapsWith (.ListComp elt [⟨tg, iter, ifs, 0⟩] scope pos) (some (.Name y py)) spos.line X.env = pure true) :
    PS X (.Assign [.Name y py] (.ListComp elt [⟨tg, iter, ifs, 0⟩] scope pos) spos) (tAsg (TDE X.K f) (gName i)) := by
  intro pins s σ H Z I ⟨m, r, h, d, h', w, st, e, c⟩
  obtain ⟨h1, rfl, hw⟩ := hi pins s σ H m r h d h' I w st e
  have S' : ScOk scope X.env.scope := by rw [xo.s]; exact S
  rw [exec_Assign_Name_used _ _ _ _ hsw]
  refine wpAny_bind (wpAny_standAt (wpAny_bind ?_))
  show wpAny _ X.A (do let _ ← comprehension (.ListComp elt [⟨tg, iter, ifs, 0⟩] scope pos) scope X.env _ (newList []) false (eval iter X.env) (some (assign (.Name y py) X.env))) _ _ s
  refine wpAny_bind (thn (wpAny_comprehension_free (use := some (assign (.Name y py) X.env)) (Q := fun _ s' => SP X pins Z .next s') rfl (fun z => by cases iter <;> first | rfl | (cases hset; done)) (closure_is fun p hp e => I.ok.has p.1 (.inl (S'.free p hp e))) S.kind S.loc ?_) fun _ s' q => wpAny_pure (wpAny_pure q))
  refine thn hw fun v s1 q1 => thn q1 fun itv s2 q2 => ?_
  obtain ⟨it, fp, tn, J, H2, rfl, I2, T, st2, fok, m2, h2, eh2, g2, w2, Lp, k0, L0, hst⟩ := q2
  refine comp_core (Rr := fun acc C => compPost (model X.prog X.w) X.A X.xe (some (assign (.Name y py) X.env)) (fun _ s' => SP X pins Z .next s') acc C) S' hcap (by rw [xo.n]; exact hN) hfr xo.calm blk I2 T st2 fok w2 (st.mono g2) Lp k0 L0 hst fun acc C s1 H' m' I1 ⟨mm, hn⟩ hC hL hz hc hp g' w' rv => ?_
  rw [eh2] at rv
  show wpAny _ X.A (assign (.Name y py) X.env (.ref acc)) _ _ s1
  have hyl : X.env.kindOf y = some .local := by show X.env.scope.names.lookup y = _; rw [xo.s]; exact hl
  refine wpAny_assign_Name (store_ok2 (i := i) (v := .ref acc) I1 xo.nd (by rw [xo.n]; exact hy) (.inl (by rw [xo.s]; exact hl)) rfl (fun s5 I5 ⟨a, hsa, hq⟩ => ?_) (.inr (by rw [xo.s]; exact hl)))
  have ea : a ≠ C := by
    rcases hq with rfl | hq
    · exact fun z => hL z.symm
    · exact hc _ _ hq
  refine ⟨mm, ?_, fun hh hsb => ⟨_, H', I5.turned (fun b o hb e => hsb.extBut b o hb e) hC hL (.inr hz) hc hp, c m' _ H' (g2.trans g') w' rv⟩⟩
  obtain ⟨o, es, ep, e1, e2⟩ := hn
  exact ⟨o, es, ep, hsa.extBut C o (Ne.symm ea) e1, e2⟩
end
end Ng
end
section
set_option Elab.async false
set_option linter.all false
set_option maxRecDepth 100000
set_option maxHeartbeats 4000000
set_option autoImplicit false
namespace Ng
open PySem PySem.Spec PyProof.Rows L2
section
variable {X : Cx} {N : List Str} {sc : Scope} {G : Gs} {ca : Nat → Addr} {cl : Cl}
theorem tests_false {ifs : List PySem.Expr} {env : Env} {M : Model} {A : Around} {E : Value → Shared → Prop} {s : Shared} {Q : Bool → Shared → Prop} (h : Q false s) : wpAny M A (testsOf ifs env false) Q E s := by
  induction ifs with
  | nil => exact wpAny_pure h
  | cons c l ih =>
    unfold testsOf at ih ⊢
    rw [List.forIn_cons, if_neg Bool.false_ne_true]
    exact wpAny_bind (wpAny_pure ih)
theorem tests_cons {c : PySem.Expr} {l : List PySem.Expr} {env : Env} {M : Model} {A : Around} {E : Value → Shared → Prop} {s : Shared} {Q : Bool → Shared → Prop} (h : wpAny M A (isTrue c env (eval c env)) (fun b s' => wpAny M A (testsOf l env b) Q E s') E s) : wpAny M A (testsOf (c :: l) env true) Q E s := by
  unfold testsOf at h ⊢
  rw [List.forIn_cons, if_pos rfl]
  exact wpAny_bind (wpAny_bind (thn h fun b s' q => wpAny_pure q))
theorem blk_xo {N' : List Str} {scope : Scope} (xo : XOk X N sc) (nd : N'.Nodup) (C : Addr) (s3 : Shared) (H3 : Hp) (fp : List Addr) : XOk (blkX X N' scope C s3 H3 fp) N' (relab scope sc) :=
  ⟨rfl, by rw [← xo.s]; rfl, xo.calm, nd, xo.room, xo.rng, PassesOwn.never⟩
theorem blk_loc {N' : List Str} {scope : Scope} (S : ScOk scope X.env.scope) (C : Addr) (s3 : Shared) (H3 : Hp) (fp : List Addr) : LocOk (blkX X N' scope C s3 H3 fp) scope := fun x hx => by
  rcases locB_ok hx with h | h
  · have z : (relabel scope X.env).names.lookup x = some .local := lookup_relabel_local h
    exact ⟨.inl z, .inr z⟩
  · have z : (relabel scope X.env).names.lookup x = some .cell := relab_own h
    refine ⟨.inr z, .inl ?_⟩
    show (scope.names.lookup x == some .cell) = true
    rw [h]; rfl
theorem blk_go {N' : List Str} {scope : Scope} (go : GOk X G ca cl) (C : Addr) (s3 : Shared) (H3 : Hp) (fp : List Addr) : GOk (blkX X N' scope C s3 H3 fp) G ca cl := ⟨go.fn, go.cst, go.blt, go.ty, go.exc, go.sub, go.verr⟩
end
end Ng
end
section
set_option Elab.async false
set_option linter.all false
set_option maxRecDepth 100000
set_option maxHeartbeats 4000000
set_option autoImplicit false
namespace Ng
open PySem PySem.Spec PyProof.Rows L2
abbrev Emit := Sem PySem.Fin → Sem PySem.Fin
section
variable {Y : Cx} {tg e : PySem.Expr} {kx vx : PySem.Expr} {gens : List Comprehension} {scope : Scope} {pos : Pos} {t : Tg} {emit : Emit} {fb : Ev → Hh → Rs Ev} {n0 acc dep : Nat} {ip : Pos} {it : Addr} {J : It} {fp : List Addr} {tn : Nat → Heap → Prop} {m2 : List Addr} {H2 : Hp} {End : Ev → Hh → Prop} {R : Result → Shared → Prop} {pins : List (Addr × Obj)}
end
section
variable {Y : Cx} {kx vx iter2 : PySem.Expr} {fk fv fi : Ev → Hh → Rs D} {n0 acc : Nat}
theorem RDs.snd_put {K : PySem.W.Frag} {m : List Addr} {H : Hp} {k : Key} {z : D} {v : V} (rz : RD K m H z v) : ∀ {ds : List (Key × D)} {us : List (Key × V)}, ds.map (·.1) = us.map (·.1) → RDs K m H (ds.map (·.2)) (us.map (·.2)) →
    (ds.map (fun kv => if kv.1 = k then (kv.1, z) else kv)).map (·.1) = (us.map (fun kv => if kv.1 = k then (kv.1, v) else kv)).map (·.1) ∧ RDs K m H ((ds.map (fun kv => if kv.1 = k then (kv.1, z) else kv)).map (·.2)) ((us.map (fun kv => if kv.1 = k then (kv.1, v) else kv)).map (·.2))
  | [], [], _, _ => ⟨rfl, .nil⟩
  | [], q :: us, hk, _ => by simp at hk
  | p :: ds, [], hk, _ => by simp at hk
  | p :: ds, q :: us, hk, r => by
    simp only [List.map_cons, List.cons.injEq] at hk
    cases r with
    | cons r1 r2 =>
      obtain ⟨i1, i2⟩ := RDs.snd_put (k := k) rz hk.2 r2
      simp only [List.map_cons]
      by_cases e : p.1 = k
      · have e2 : q.1 = k := by rw [← hk.1]; exact e
        rw [if_pos e, if_pos e2]
        exact ⟨by simp only [List.cons.injEq]; exact ⟨hk.1, i1⟩, .cons rz i2⟩
      · have e2 : ¬ q.1 = k := by rw [← hk.1]; exact e
        rw [if_neg e, if_neg e2]
        exact ⟨by simp only [List.cons.injEq]; exact ⟨hk.1, i1⟩, .cons r1 i2⟩
theorem put_rel {K : PySem.W.Frag} {m : List Addr} {H : Hp} {k : Key} {z : D} {v : V} {ds : List (Key × D)} {us : List (Key × V)} (rz : RD K m H z v) (hk : ds.map (·.1) = us.map (·.1)) (r : RDs K m H (ds.map (·.2)) (us.map (·.2))) :
    (putD ds k z).map (·.1) = (putK us k v).map (·.1) ∧ RDs K m H ((putD ds k z).map (·.2)) ((putK us k v).map (·.2)) := by
  have an : (ds.any fun kv => decide (kv.1 = k)) = us.any fun kv => decide (kv.1 = k) := by
    have h1 : (ds.any fun kv => decide (kv.1 = k)) = (ds.map (·.1)).any fun x => decide (x = k) := by rw [List.any_map]; rfl
    have h2 : (us.any fun kv => decide (kv.1 = k)) = (us.map (·.1)).any fun x => decide (x = k) := by rw [List.any_map]; rfl
    rw [h1, h2, hk]
  unfold putD putK
  rw [an]
  split
  · exact RDs.snd_put rz hk r
  · simp only [List.map_append, List.map_cons, List.map_nil]
    exact ⟨by rw [hk], r.append (.cons rz .nil)⟩
/-- d[k] = v, by the data -/
theorem dput_wd {K : PySem.W.Frag} {m : List Addr} {h h' : Hh} {H : Hp} {n : Nat} {a : Addr} {y z : D} {vy vz : V} {u : Unit} (w : Wd K m h H) (ha : m[n]? = some a) (ry : RD K m H y vy) (rz : RD K m H z vz) (e : dputD n y z h = .ok u h') :
    ∃ us k, H a = some (.dK us) ∧ vy = kV k ∧ us.length < 1000 ∧ Wd K m h' (upd H a (.dK (putK us k vz))) ∧ Gr K m H m (upd H a (.dK (putK us k vz))) := by
  unfold dputD at e
  split at e
  · rename_i l k el ek
    split at e
    · rename_i hl
      cases e
      obtain ⟨us, q1, q2, q3⟩ := w.ob n _ a el ha
      have ll : l.length = us.length := by have := congrArg List.length q2; simpa using this
      obtain ⟨w2, g2⟩ := w.objSet (o' := .dct (putD l k z)) (u := .dK (putK us k vz)) el rfl ha fun g => by
        obtain ⟨i1, i2⟩ := put_rel (k := k) (rz.mono g) q2 (q3.mono g)
        exact ⟨_, upd_same, i1, i2⟩
      exact ⟨us, k, q1, keyD_rel ry ek, by omega, w2, g2⟩
    · cases e
  · cases e
end
section
variable {Y : Cx} {kx vx tg1 iter1 tg2 iter2 : PySem.Expr} {scope : Scope} {pos : Pos} {t2 : Tg} {fk fv fi : Ev → Hh → Rs D} {n0 acc : Nat}
end
section
variable {X : Cx} {N' : List Str} {scope : Scope} {cap : List Nat} {kx vx tg1 iter1 tg2 iter2 : PySem.Expr} {pos : Pos} {t1 t2 : Tg} {fi fk fv : Ev → Hh → Rs D}
end
end Ng
end
section
set_option Elab.async false
set_option linter.all false
set_option maxRecDepth 100000
set_option maxHeartbeats 4000000
set_option autoImplicit false
namespace Ng
open PySem PySem.Spec PyProof.Rows L2
theorem ent_same (P P' : Program) (w w' : World) : entryOfKey (tupleKind (intKind P w)) = entryOfKey (tupleKind (intKind P' w')) := rfl
theorem itemsI {P : Program} {w : World} : ∀ {ks : List Int} {us : List Value}, Vals (ks.map V.int) us → ItemsAre (intKind P w) ks us
  | [], _, .nil => .nil
  | k :: ks, _, .cons h t => by
    obtain ⟨tk, rfl⟩ := h
    exact .cons (by show Value.isInt k (.int k tk) = true; simp [Value.isInt]) (itemsI t)
section
variable {X : Cx} {pins : List (Addr × Obj)} {σ : Sg} {H : Hp} {s : Shared}
theorem keyI (I : Inv X pins σ H s) {b : Addr} {k : List Int} (h : SqT X.K H b (k.map V.int)) : (tupleKind (intKind X.prog X.w)).is s.heap k b := by
  obtain ⟨its, p, t, _⟩ := I.tuple h
  obtain ⟨o, h1, h2, n, h3⟩ := t
  exact ⟨o, its.toArray, n, h1, h2, h3, by simpa using itemsI p⟩
theorem dtt_ok {P : Program} {w : World} {H : Hp} {h : Heap} {a : Addr} {xs : List (List Int × Addr × Value)} (d : Dtt a xs h) : ObjOk P w H h a (.ext (Dtt a xs)) := by
  obtain ⟨h1, h2, P0, w0, o, es, ep, h3, h4, h5, h6, h7⟩ := id d
  refine ⟨d, ⟨o, h3⟩, fun g1 g2 ⟨a1, a2, P1, w1, o1, es1, ep1, a3, a4⟩ k => ⟨a1, a2, P1, w1, o1, es1, ep1, k o1 a3, a4⟩⟩
theorem Dtt.of (I : Inv X pins σ H s) {a : Addr} {xs : List (List Int × Addr × Value)} (e : H a = some (.ext (Dtt a xs))) : Dtt a xs s.heap := (show ObjOk X.prog X.w H s.heap a (.ext (Dtt a xs)) from I.hok a _ e).1
theorem atKey_any {xs : List (List Int × Addr × Value)} {k : List Int} : (atKey xs k).isSome = xs.any fun x => decide (x.1 = k) := by
  induction xs with
  | nil => rfl
  | cons x xs ih =>
    by_cases e : x.1 = k
    · simp [atKey, List.find?_cons, e]
    · have : atKey (x :: xs) k = atKey xs k := by simp [atKey, List.find?_cons, e]
      rw [this, ih]; simp [e]
theorem any_map_eq {α : Type} {l : List (List Int × α)} {xs : List (List Int × Addr × Value)} {k : List Int} (h : l.map (·.1) = xs.map (·.1)) : l.any (fun kv => decide (kv.1 = k)) = xs.any fun x => decide (x.1 = k) := by
  have a : l.any (fun kv => decide (kv.1 = k)) = (l.map (·.1)).any fun y => decide (y = k) := by rw [List.any_map]; rfl
  have b : (xs.any fun x => decide (x.1 = k)) = (xs.map (·.1)).any fun y => decide (y = k) := by rw [List.any_map]; rfl
  rw [a, b, h]
theorem repl_rel {K : PySem.W.Frag} {m : List Addr} {H : Hp} {k : List Int} {z : D} {vz : V} {uz : Value} (rz : RD K m H z vz) (sz : RelV vz uz) : ∀ {ds : List (List Int × D)} {xs : List (List Int × Addr × Value)} {us : List V}, ds.map (·.1) = xs.map (·.1) → RDs K m H (ds.map (·.2)) us → Vals us (xs.map (·.2.2)) →
    ∃ us', (ds.map fun kv => if kv.1 = k then (kv.1, z) else kv).map (·.1) = (xs.map (putAt k uz)).map (·.1) ∧ RDs K m H ((ds.map fun kv => if kv.1 = k then (kv.1, z) else kv).map (·.2)) us' ∧ Vals us' ((xs.map (putAt k uz)).map (·.2.2)) ∧ ∀ x ∈ xs.map (putAt k uz), ∃ y ∈ xs, x.1 = y.1 ∧ x.2.1 = y.2.1
  | [], [], us, _, r, p => ⟨[], rfl, .nil, .nil, fun x hx => by cases hx⟩
  | [], _ :: _, us, h, _, _ => by cases h
  | _ :: _, [], us, h, _, _ => by cases h
  | d :: ds, x :: xs, us, h, r, p => by
    cases r with
    | @cons _ v1 _ _ r1 r =>
      cases p with
      | cons p1 p =>
        obtain ⟨h1, h2⟩ := List.cons.inj (show d.1 :: ds.map (·.1) = x.1 :: xs.map (·.1) from h)
        obtain ⟨us', a, b, c, e⟩ := repl_rel rz sz h2 r p
        by_cases q : d.1 = k
        · have q' : x.1 = k := by rw [← h1]; exact q
          refine ⟨vz :: us', ?_, ?_, ?_, ?_⟩
          · simp only [List.map_cons, putAt, if_pos q, if_pos q']; rw [h1]; congr 1
          · simp only [List.map_cons, if_pos q]; exact .cons rz b
          · simp only [List.map_cons, putAt, if_pos q']; exact .cons sz c
          · intro y hy
            rw [List.map_cons] at hy
            rcases List.mem_cons.mp hy with rfl | hy
            · exact ⟨x, List.mem_cons_self, by simp [putAt, q'], by simp [putAt, q']⟩
            · obtain ⟨y', m1, m2⟩ := e y hy; exact ⟨y', List.mem_cons_of_mem _ m1, m2⟩
        · have q' : ¬ x.1 = k := by rw [← h1]; exact q
          refine ⟨v1 :: us', ?_, ?_, ?_, ?_⟩
          · simp only [List.map_cons, putAt, if_neg q, if_neg q']; rw [h1]; congr 1
          · simp only [List.map_cons, if_neg q]; exact .cons r1 b
          · simp only [List.map_cons, putAt, if_neg q']; exact .cons p1 c
          · intro y hy
            rw [List.map_cons] at hy
            rcases List.mem_cons.mp hy with rfl | hy
            · exact ⟨x, List.mem_cons_self, by simp [putAt, q'], by simp [putAt, q']⟩
            · obtain ⟨y', m1, m2⟩ := e y hy; exact ⟨y', List.mem_cons_of_mem _ m1, m2⟩
theorem putT_rel {K : PySem.W.Frag} {m : List Addr} {H : Hp} {k : List Int} {z : D} {vz : V} {uz : Value} {b : Addr} (hb : SqT K H b (k.map V.int)) (rz : RD K m H z vz) (sz : RelV vz uz) {ds : List (List Int × D)} {xs : List (List Int × Addr × Value)} {us : List V} (h : ds.map (·.1) = xs.map (·.1)) (hk : ∀ x ∈ xs, SqT K H x.2.1 (x.1.map V.int)) (r : RDs K m H (ds.map (·.2)) us) (p : Vals us (xs.map (·.2.2))) :
    ∃ us', (putT ds k z).map (·.1) = (storedH xs k b uz).map (·.1) ∧ (∀ x ∈ storedH xs k b uz, SqT K H x.2.1 (x.1.map V.int)) ∧ RDs K m H ((putT ds k z).map (·.2)) us' ∧ Vals us' ((storedH xs k b uz).map (·.2.2)) := by
  have e : ds.any (fun kv => decide (kv.1 = k)) = (atKey xs k).isSome := by rw [atKey_any]; exact any_map_eq h
  unfold putT storedH
  rw [e]
  by_cases q : (atKey xs k).isSome = true
  · rw [if_pos q, if_pos q]
    obtain ⟨us', a, b', c, d⟩ := repl_rel (k := k) rz sz h r p
    refine ⟨us', a, fun x hx => ?_, b', c⟩
    obtain ⟨y, hy, e1, e2⟩ := d x hx
    rw [e1, e2]; exact hk y hy
  · rw [if_neg q, if_neg q]
    refine ⟨us ++ [vz], by simp [h], fun x hx => ?_, ?_, ?_⟩
    · rcases List.mem_append.mp hx with hx | hx
      · exact hk x hx
      · have : x = (k, b, uz) := by simpa using hx
        subst this; exact hb
    · rw [List.map_append]; exact r.append (.cons rz .nil)
    · rw [List.map_append]; exact p.append (.cons sz .nil)
theorem stored_len {xs : List (List Int × Addr × Value)} {k : List Int} {b : Addr} {u : Value} : (storedH xs k b u).length ≤ xs.length + 1 := by
  unfold storedH; split <;> simp
theorem dtt_put {A : Around} {E : Value → Shared → Prop} {Q : Unit → Shared → Prop} {m : List Addr} {h : Hh} (hu : A.units + 1 < cLine) (I : Inv X pins σ H s) (w : Wd X.K m h H) {n : Nat} {a b : Addr} {l : List (List Int × D)} {k : List Int} {z : D} {vz : V} {uz : Value} (hn : h[n]? = some (.dtt l)) (ha : m[n]? = some a) (hl : l.length < 1000)
    (hb : SqT X.K H b (k.map V.int)) (rz : RD X.K m H z vz) (sz : RelV vz uz) (c : ∀ s' H', Inv X pins σ H' s' → Gr X.K m H m H' → Wd X.K m (h.set n (.dtt (putT l k z))) H' → Q () s') : wpAny (model X.prog X.w) A (setItem (.ref a) (.ref b) uz) Q E s := by
  obtain ⟨xs, us, h1, h2, h3, h4, h5⟩ : RO X.K m H a (.dtt l) := w.ob n _ a hn ha
  obtain ⟨d1, d2, P0, w0, o, es, ep, d3, d4, d5, d6, d7⟩ := Dtt.of I h1
  have xl : l.length = xs.length := by have := congrArg List.length h2; simpa using this
  have dd : s.heap.DictOfH (tupleKind (intKind X.prog X.w)) a xs := ⟨o, es, ep, d3, d4, d5, d6.trans (by rw [ent_same P0 X.prog w0 X.w]), fun x hx => keyI I (h3 x hx), d7⟩
  refine wpAny_setItem_heap (hsz := by have : (1000 : Nat) ≤ sizeLine := by decide
                                       omega) (tupleKind_room_in1 hu) (keyI I hb) dd fun g dd' hs => ?_
  obtain ⟨o', es', ep', e3, e4, e5, e6, _, e7⟩ := dd'
  have dn : Dtt a (storedH xs k b uz) g := ⟨d1, by have := stored_len (xs := xs) (k := k) (b := b) (u := uz); omega, X.prog, X.w, o', es', ep', e3, e4, e5, e6, e7⟩
  obtain ⟨us', f1, f2, f3, f4⟩ := putT_rel hb rz sz h2 h3 h4 h5
  obtain ⟨w2, g2⟩ := w.objSet (o' := .dtt (putT l k z)) (u := .ext (Dtt a (storedH xs k b uz))) hn rfl ha fun g => ⟨storedH xs k b uz, us', upd_same, f1, fun x hx => g.tup _ _ (f2 x hx), f3.mono g, f4⟩
  exact c _ _ (d_write I (by rw [h1]; exact True.intro) hs ⟨o', e3⟩ (dtt_ok dn)) g2 w2
/-- a new one -/
theorem pe_dnt {pos : Pos} : PE X (.Dict [] [] pos) (fun _ H Q => ∀ p, H p = none → Q (.ref p) (upd H p (.ext (Dtt p [])))) := fun pins s σ H Q I h =>
  wpAny_Dict_empty ⟨.ref s.heap.objs.size, _, I.laid (a := s.heap.objs.size) (o := .ext (Dtt s.heap.objs.size [])) (t' := s.toks) (fun _ _ q => Heap.get?_push_of_some _ q) (Nat.le_refl _)
    (dtt_ok ⟨beq_eq_false_iff_ne.mpr (Ne.symm (Nat.ne_of_lt I.big)), Nat.zero_le _, X.prog, X.w, _, #[], 0, Heap.get?_push_size _ rfl, ⟨rfl, rfl, rfl⟩, rfl, rfl, List.nodup_nil⟩), rfl, h _ (I.hok.fresh (Nat.le_refl _))⟩
theorem meets_items {prog : Program} {w : World} (d : Addr) (hd : (d == sysModules) = false) : MeetsIn prog w (Builtin.«dict.items» ⟨[.ref d], []⟩) (fun _ R s => s.TypeIs (.ref d) "dict" ∧
      R (.ok (.ret (.ref s.heap.objs.size))) { s with heap := s.heap.push { cls := .type "dict_items", data := .fields #[.ref d] } }) :=
  .of_wp fun A R s ⟨ht, h⟩ => by
    unfold Builtin.«dict.items»
    refine wpAny_bind ?_
    unfold Builtin.Dict.noArgs
    refine wpAny_bind (wpAny_notOrdered_dict ht ?_)
    show wpAny _ _ (pure d) _ _ s
    refine wpAny_pure ?_
    show wpAny _ _ (Builtin.Dict.showsAll d >>= _) _ _ s
    unfold Builtin.Dict.showsAll
    rw [if_neg (by rw [hd]; exact Bool.false_ne_true)]
    exact wpAny_bind (wpAny_pure (wpAny_bind (wpAny_newObj_type (wpAny_pure ⟨_, rfl, h⟩))))
/-- the walk: the dict is known and stays -/
def Itd (d : Addr) (o : Obj) (ks : List (Addr × V)) : It :=
  ⟨fun i H => H d = some (.frz o (.own d)) ∧ i < ks.length, fun i H x H' => ∃ p k v, H p = none ∧ ks[i]? = some (k, v) ∧ x = .ref p ∧ H' = upd H p (.tup [.ref k, v]), fun i H => H d = some (.frz o (.own d)) ∧ ks.length ≤ i⟩
theorem turn_items {P : Program} {w : World} {K : PySem.W.Frag} {elts : List PySem.Expr} {x1 : Nat} {pos : Pos} {d it : Addr} {o : Obj} {es : Array DictEntry} {ep : Nat} {ks : List (Addr × V)} (ho : o.data = .dict es ep) (hn : es.size = ks.length) (hk : ∀ (i : Nat) k v, ks[i]? = some (k, v) → ∃ en, es[i]? = some en ∧ en.key = .ref k ∧ RelV v en.val) :
    Turn P w K (.Tuple elts x1 pos) (Itd d o ks) [it] it (fun i h => ∃ q1 q2, IsItemIter h it d i ks.length ep q1 q2) where
  mem := by simp
  obj := fun i h st b hb => by
    have e : b = it := by simpa using hb
    subst e
    obtain ⟨q1, q2, e⟩ := st
    exact ⟨_, e, fun v z => nomatch z⟩
  keep := fun i h h' ⟨q1, q2, e⟩ k => ⟨q1, q2, k it (by simp) _ e⟩
  item := by
    intro X hP hw hK hc i pins s σ H E I hf st hg
    subst hP hw hK
    obtain ⟨q1, q2, st⟩ := st
    obtain ⟨hd, hi⟩ := hg
    obtain ⟨f0, f1, f2, f3, f4, f5⟩ := hf it (by simp)
    obtain ⟨⟨k, v⟩, hkv⟩ : ∃ p, ks[i]? = some p := ⟨_, List.getElem?_eq_getElem hi⟩
    obtain ⟨en, e1, e2, e3⟩ := hk i k v hkv
    have od : s.heap.get? d = some o := (show ObjOk X.prog X.w H s.heap d (.frz o (.own d)) from I.hok d _ hd).1
    have il : it < s.heap.objs.size := Heap.lt_size st
    refine itm_next st od ho hn e1 fun g h1 h2 h3 h4 => ⟨.ref s.heap.objs.size, rfl, ?_⟩
    refine wpAny_letOwnedTupleGo_items h1 fun g2 h5 h6 => ?_
    have hp : H s.heap.objs.size = none := I.hok.fresh (Nat.le_refl _)
    have I1 : Inv X pins σ (upd H s.heap.objs.size (.tup [.ref k, v])) { s with heap := s.heap.push { cls := .type "tuple", data := .seq #[en.key, en.val] } } :=
      I.laid (t' := s.toks) (o := .tup [.ref k, v]) (fun b u q => Heap.get?_push_of_some _ q) (Nat.le_refl _) ⟨by show 2 ≤ sizeLine; decide, [en.key, en.val], .cons (by rw [e2]; rfl) (.cons e3 .nil), IsTup.new _ _⟩
    have ne : it ≠ s.heap.objs.size := Nat.ne_of_lt il
    have I2 : Inv X pins σ (upd H s.heap.objs.size (.tup [.ref k, v])) { s with heap := g2 } := L2.Inv.turned (s := { s with heap := s.heap.push { cls := .type "tuple", data := .seq #[en.key, en.val] } }) (h' := g2) (t' := s.toks) (it := it) I1 (fun b u hb q => by
      have q0 : (s.heap.push { cls := .type "tuple", data := .seq #[en.key, en.val] }).get? b = some u := q
      by_cases z : b = s.heap.objs.size
      · subst z
        have q' : some { cls := .type "tuple", data := .seq #[en.key, en.val] } = some u := (Heap.get?_push_size s.heap rfl).symm.trans q0
        rw [← q']
        exact h6.extBut _ _ hb h2
      · rw [Heap.get?_push_ne _ _ _ z] at q0
        exact h6.extBut b u hb (h4 b u hb q0)) (by rw [upd_ne ne]; exact f0) f1 f3 f4 f5
    exact ⟨.ref s.heap.objs.size, _, I2, rfl, ⟨_, k, v, hp, hkv, rfl, rfl⟩, ⟨_, _, h5⟩, fun b hb => by
      have e : b = it := by simpa using hb
      subst e
      rw [upd_ne ne]; exact f0⟩
  done := by
    intro X hP hw hK hc i pins s σ H E I hf st hg
    subst hP hw hK
    obtain ⟨q1, q2, st⟩ := st
    obtain ⟨hd, hi⟩ := hg
    obtain ⟨f0, f1, f2, f3, f4, f5⟩ := hf it (by simp)
    have od : s.heap.get? d = some o := (show ObjOk X.prog X.w H s.heap d (.frz o (.own d)) from I.hok d _ hd).1
    exact itm_end (I.ok.hd hc) st od ho hn hi fun g eb => ⟨rfl, I.turned (t' := s.toks) (fun b o hb e => eb b o hb e) f0 f1 f3 f4 f5⟩
  self := fun _ _ _ _ _ ⟨q1, q2, st⟩ h => PySem.W.kcp_self st h
end
end Ng
end
section
set_option Elab.async false
set_option linter.all false
set_option maxRecDepth 100000
set_option maxHeartbeats 4000000
set_option autoImplicit false
namespace Ng
open PySem PySem.Spec PyProof.Rows L2
theorem boot_ty (t : Ty) : bootBuiltins (Str.ofString t.nm) = some (.type t.nm) := by cases t <;> decide +kernel
theorem ty_dbg (t : Ty) : (Str.ofString t.nm == ("__debug__" : Str)) = false ∧ Str.ofString t.nm ≠ "__name__" := by cases t <;> decide +kernel
theorem boot_blt (f : Blt) : bootBuiltins f.nm = some f.val := by cases f <;> decide +kernel
theorem blt_dbg (f : Blt) : (f.nm == ("__debug__" : Str)) = false ∧ f.nm ≠ "__name__" := by cases f <;> decide +kernel
section
variable {X : Cx} {N : List Str} {sc : Scope} {G : Gs} {ca : Nat → Addr} {cl : Cl}
theorem TDE.one {K : PySem.W.Frag} {fa f : Ev → Hh → Rs D} {k : Ev → D → Hh → Rs D} {s : Sg} {H : Hp} {Q R : VK} (hf : ∀ r h, f r h = (fa r h).bind (k r)) (q : TDE K f s H Q)
    (c : ∀ (m m2 : List Addr) (r : Ev) (d : D) (h2 h' : Hh) (H2 : Hp) (dx : D) (x : V), RSt K m H r s → Gr K m H m2 H2 → Wd K m2 h2 H2 → RSt K m2 H2 r s → RD K m2 H2 dx x → k r dx h2 = .ok d h' → (∀ m' v H', Gr K m2 H2 m' H' → Wd K m' h' H' → RD K m' H' d v → Q v H') → R x H2) : TDE K fa s H R := by
  obtain ⟨m, r, h, d, h', w, st, e, cc⟩ := q
  rw [hf] at e
  obtain ⟨dx, h1, e1, e⟩ := Rs.bind_ok e
  exact ⟨m, r, h, dx, h1, w, st, e1, fun m1 x H1 g1 w1 rx => c m m1 r d h1 h' H1 dx x st g1 w1 (st.mono g1) rx e fun m' v H' g => cc m' v H' (g1.trans g)⟩
end
def SE (N : List Str) (sc : Scope) (G : Gs) (c : E) (e : PySem.Expr) : Prop := ∀ {X : Cx} {ca : Nat → Addr} {cl : Cl}, XOk X N sc → GOk X G ca cl → PE X e (TDE X.K (ev G cl c)) ∧ PT X e (TDT X.K (ev G cl c))
def SAs (N : List Str) (sc : Scope) (G : Gs) (l : Es) (es : List PySem.Expr) : Prop := es.all noStar = true ∧ ∀ {X : Cx} {ca : Nat → Addr} {cl : Cl}, XOk X N sc → GOk X G ca cl → PA X es (TDA X.K (evs G cl l))
def SBs (N : List Str) (sc : Scope) (G : Gs) (l : Es) (es : List PySem.Expr) : Prop := ∀ {X : Cx} {ca : Nat → Addr} {cl : Cl}, XOk X N sc → GOk X G ca cl → PTs X es (TDB X.K (evt G cl l))
theorem back_no {X : Cx} (pos : Pos) : ∀ {es : List PySem.Expr}, es.all noStar = true → (backTo pos (starEach es X.env)).any (·.1) = false
  | [], _ => rfl
  | e :: es, h => by
    rw [List.all_cons, Bool.and_eq_true] at h
    rw [star_one es h.1]
    have ih := back_no (X := X) pos (es := es) h.2
    exact (show (false || (backTo pos (starEach es X.env)).any (·.1)) = false by rw [ih]; rfl)
section
variable {N : List Str} {sc : Scope} {G : Gs}
theorem dE_var {i : Nat} {x : Str} {pos : Pos} (h1 : N[i]? = some x) (h : (visB sc x && noDbg x) = true) : SE N sc G (.var i) (.Name x pos) := fun {X ca cl} xo go => by
  rw [Bool.and_eq_true] at h
  obtain ⟨h2, h3⟩ := h
  obtain ⟨d1, d2, d3⟩ := noDbg_ok h3
  have p : PE X (.Name x pos) (TDE X.K (ev G cl (.var i))) := (pv i (by rw [xo.n]; exact h1) (by rw [xo.s]; exact visB_ok h2) d1 d2).wk fun s H Q ⟨m, r, hh, d, h', w, st, e1, c⟩ => by
    simp only [ev] at e1
    split at e1
    · rename_i d' ed
      cases e1
      obtain ⟨v, hv, rv⟩ := st.2 i _ ed
      exact ⟨v, hv, c m v H Gr.refl w rv⟩
    · cases e1
  exact ⟨p, tOf p fun _ => rfl⟩
theorem dE_int {i : Int} {j : Nat} {pos : Pos} : SE N sc G (.int i) (.Constant (.int i) j pos) := fun {X ca cl} xo go => by
  have p : PE X (.Constant (.int i) j pos) (TDE X.K (ev G cl (.int i))) := (pe_int).wk fun s H Q ⟨m, r, hh, d, h', w, st, e1, c⟩ => by
    cases e1
    exact c m _ H Gr.refl w (.int i)
  exact ⟨p, tOf p fun _ => rfl⟩
theorem dE_bl {b : Bool} {j : Nat} {pos : Pos} : SE N sc G (.bl b) (.Constant (.bool b) j pos) := fun {X ca cl} xo go => by
  have p : PE X (.Constant (.bool b) j pos) (TDE X.K (ev G cl (.bl b))) := (pe_bl).wk fun s H Q ⟨m, r, hh, d, h', w, st, e1, c⟩ => by
    cases e1
    exact c m _ H Gr.refl w (.bl b)
  exact ⟨p, tOf p fun _ => rfl⟩
theorem dE_non {j : Nat} {pos : Pos} : SE N sc G .non (.Constant .none j pos) := fun {X ca cl} xo go => by
  have p : PE X (.Constant .none j pos) (TDE X.K (ev G cl .non)) := (pe_non).wk fun s H Q ⟨m, r, hh, d, h', w, st, e1, c⟩ => by
    cases e1
    exact c m _ H Gr.refl w .non
  exact ⟨p, tOf p fun _ => rfl⟩
theorem dE_str {x : Str} {j : Nat} {pos : Pos} : SE N sc G (.str x) (.Constant (.str x) j pos) := fun {X ca cl} xo go => by
  have p : PE X (.Constant (.str x) j pos) (TDE X.K (ev G cl (.str x))) := (pe_str).wk fun s H Q ⟨m, r, hh, d, h', w, st, e1, c⟩ => by
    cases e1
    exact c m _ H Gr.refl w (.str x)
  exact ⟨p, tOf p fun _ => rfl⟩
theorem dE_gc {g : Nat} {x : Str} {d0 : D} {pos : Pos} (q : G.csts[g]? = some (x, d0)) (h : (glB sc x && noDbg x) = true) : SE N sc G (.gc g) (.Name x pos) := fun {X ca cl} xo go => by
  rw [Bool.and_eq_true] at h
  obtain ⟨h2, h3⟩ := h
  obtain ⟨d1, d2, d3⟩ := noDbg_ok h3
  obtain ⟨v, u, hm, rv, rd⟩ := go.cst g x d0 q
  have p : PE X (.Name x pos) (TDE X.K (ev G cl (.gc g))) := (pe_glob (glB_ok xo h2) hm rv d1).wk fun s H Q ⟨m, r, hh, d, h', w, st, e1, c⟩ => by
    simp only [ev, q] at e1
    cases e1
    exact c m _ H Gr.refl w (rd m H)
  exact ⟨p, tOf p fun _ => rfl⟩
theorem dE_ty {t : Ty} {pos : Pos} (hg : glB sc (Str.ofString t.nm) = true) : SE N sc G (.ty t) (.Name (Str.ofString t.nm) pos) := fun {X ca cl} xo go => by
  have p : PE X (.Name (Str.ofString t.nm) pos) (TDE X.K (ev G cl (.ty t))) := (pe_bltn (v := .ty t.nm) (glB_ok xo hg) (go.ty t) (boot_ty t) rfl (ty_dbg t).2 (ty_dbg t).1).wk fun s H Q ⟨m, r, hh, d, h', w, st, e1, c⟩ => by
    cases e1
    exact c m _ H Gr.refl w (.ty _)
  exact ⟨p, tOf p fun _ => rfl⟩
theorem dE_bin {op : Bop} {a b : E} {x y : PySem.Expr} {pos : Pos} (h_a : SE N sc G a x) (h_b : SE N sc G b y) : SE N sc G (.bin op a b) (.BinOp x op.op y pos) := fun {X ca cl} xo go => by
  have p : PE X (.BinOp x op.op y pos) (TDE X.K (ev G cl (.bin op a b))) := (pe_op (opBin op) (h_a xo go).1 (h_b xo go).1).wk (TDE.op fun r h => by simp only [ev])
  exact ⟨p, tOf p fun _ => rfl⟩
theorem dE_neg {a : E} {x : PySem.Expr} {pos : Pos} (h_a : SE N sc G a x) : SE N sc G (.neg a) (.UnaryOp .USub x pos) := fun {X ca cl} xo go => by
  have p : PE X (.UnaryOp .USub x pos) (TDE X.K (ev G cl (.neg a))) := (pe_un un_neg (h_a xo go).1).wk fun s H Q q => by
    refine TDE.one (fun _ _ => rfl) q fun m m2 r d h2 h' H2 dx y st g w2 st2 rx e c => ?_
    cases rx <;> first | (cases e; done) | skip
    cases e
    exact ⟨_, rfl, c m2 _ H2 Gr.refl w2 (.int _)⟩
  exact ⟨p, tOf p fun _ => rfl⟩
theorem dE_cmp {op : Cop} {a b : E} {x y : PySem.Expr} {pos : Pos} (hm : behindInMarks op.op y = false) (h_a : SE N sc G a x) (h_b : SE N sc G b y) : SE N sc G (.cmp op a b) (.Compare x [op.op] [y] pos) := fun {X ca cl} xo go => by

  refine ⟨(pe_cmpR (opCmp xo.room op) ((h_a xo go).1) ((h_b xo go).1) hm).wk (TDE.op fun r h => by simp only [ev]), ?_⟩
  refine (pt_cmpR (opCmp xo.room op) ((h_a xo go).1) ((h_b xo go).1) hm).wk fun s H Q ⟨m, r, hh, d, h', k, w, st, e1, ek, c⟩ => ?_
  refine TDE.op (f := ev G cl (.cmp op a b)) (k := cmpD op) (fun r h => by simp only [ev]) s H _ ⟨m, r, hh, d, h', w, st, e1, fun m' v H' g w' rd => ?_⟩
  have e1' := e1
  simp only [ev] at e1'
  obtain ⟨_, _, _, e1'⟩ := Rs.bind_ok e1'
  obtain ⟨_, _, _, e1'⟩ := Rs.bind_ok e1'
  obtain ⟨k', rfl⟩ := cmpD_bl e1'
  cases rd
  have ek' : k' = k := Option.some.inj ek
  subst ek'
  exact ⟨k', rfl, c m' H' g w'⟩

theorem dE_and2 {a b : E} {x : PySem.Expr} {v : PySem.Expr} {vs : List PySem.Expr} {pos : Pos} (h_a : SE N sc G a x) (h_b : SE N sc G b (.BoolOp .And (v :: vs) pos)) : SE N sc G (.and a b) (.BoolOp .And (x :: v :: vs) pos) := fun {X ca cl} xo go => by
  have hb := h_b xo go

  refine ⟨(pe_andG ((h_a xo go).1) hb.1).wk fun s H Q q => ?_, (pw_and ((h_a xo go).2) (pw_of hb.2)).pt.wk fun s H Q q => ?_⟩
  · refine TDE.one (fun _ _ => rfl) q fun m m2 r d h2 h' H2 dx v st g w2 st2 rx e c => ?_
    split at e
    · rename_i et
      exact ⟨true, truRel w2 rx et, iteT (⟨m2, r, h2, d, h', w2, st2, e, c⟩)⟩
    · rename_i et
      cases e
      exact ⟨false, truRel w2 rx et, iteF (c m2 v H2 Gr.refl w2 rx)⟩
    · cases e
  · obtain ⟨m, r, hh, d, h', k, w, st, e1, ek, c⟩ := q
    simp only [ev] at e1
    obtain ⟨dx, h1, e0, e1⟩ := Rs.bind_ok e1
    split at e1
    · rename_i et
      exact ⟨m, r, hh, dx, h1, true, w, st, e0, et, fun m' H' g w' => iteT (⟨m', r, h1, d, h', k, w', st.mono g, e1, ek, fun m2 H2 g2 => c m2 H2 (g.trans g2)⟩)⟩
    · rename_i et
      cases e1
      rw [et] at ek
      cases ek
      exact ⟨m, r, hh, _, _, false, w, st, e0, et, fun m' H' g w' => iteF (c m' H' g w')⟩
    · cases e1

theorem dE_and {a b : E} {x y : PySem.Expr} {pos : Pos} (h_a : SE N sc G a x) (h_b : SE N sc G b y) : SE N sc G (.and a b) (.BoolOp .And [x, y] pos) :=
  dE_and2 h_a fun {X ca cl} xo go => ⟨pe_one (h_b xo go).1, (pw_and1 (h_b xo go).2).pt⟩

theorem dE_or2 {a b : E} {x : PySem.Expr} {v : PySem.Expr} {vs : List PySem.Expr} {pos : Pos} (h_a : SE N sc G a x) (h_b : SE N sc G b (.BoolOp .Or (v :: vs) pos)) : SE N sc G (.or a b) (.BoolOp .Or (x :: v :: vs) pos) := fun {X ca cl} xo go => by
  have hb := h_b xo go

  refine ⟨(pe_orG ((h_a xo go).1) hb.1).wk fun s H Q q => ?_, (pw_or ((h_a xo go).2) (pw_of hb.2)).pt.wk fun s H Q q => ?_⟩
  · refine TDE.one (fun _ _ => rfl) q fun m m2 r d h2 h' H2 dx v st g w2 st2 rx e c => ?_
    split at e
    · rename_i et
      cases e
      exact ⟨true, truRel w2 rx et, iteT (c m2 v H2 Gr.refl w2 rx)⟩
    · rename_i et
      exact ⟨false, truRel w2 rx et, iteF (⟨m2, r, h2, d, h', w2, st2, e, c⟩)⟩
    · cases e
  · obtain ⟨m, r, hh, d, h', k, w, st, e1, ek, c⟩ := q
    simp only [ev] at e1
    obtain ⟨dx, h1, e0, e1⟩ := Rs.bind_ok e1
    split at e1
    · rename_i et
      cases e1
      rw [et] at ek
      cases ek
      exact ⟨m, r, hh, _, _, true, w, st, e0, et, fun m' H' g w' => iteT (c m' H' g w')⟩
    · rename_i et
      exact ⟨m, r, hh, dx, h1, false, w, st, e0, et, fun m' H' g w' => iteF (⟨m', r, h1, d, h', k, w', st.mono g, e1, ek, fun m2 H2 g2 => c m2 H2 (g.trans g2)⟩)⟩
    · cases e1

theorem dE_or {a b : E} {x y : PySem.Expr} {pos : Pos} (h_a : SE N sc G a x) (h_b : SE N sc G b y) : SE N sc G (.or a b) (.BoolOp .Or [x, y] pos) :=
  dE_or2 h_a fun {X ca cl} xo go => ⟨pe_one (h_b xo go).1, (pw_or1 (h_b xo go).2).pt⟩

theorem dE_not {a : E} {x : PySem.Expr} {pos : Pos} (h_a : SE N sc G a x) : SE N sc G (.not a) (.UnaryOp .Not x pos) := fun {X ca cl} xo go => by

  refine ⟨(pe_notG ((h_a xo go).1)).wk fun s H Q q => ?_, (pt_not ((h_a xo go).2)).wk fun s H Q q => ?_⟩
  · refine TDE.one (fun _ _ => rfl) q fun m m2 r d h2 h' H2 dx v st g w2 st2 rx e c => ?_
    split at e
    · rename_i k et
      cases e
      exact ⟨k, truRel w2 rx et, c m2 _ H2 Gr.refl w2 (.bl _)⟩
    · cases e
  · obtain ⟨m, r, hh, d, h', k, w, st, e1, ek, c⟩ := q
    simp only [ev] at e1
    obtain ⟨dx, h1, e0, e1⟩ := Rs.bind_ok e1
    split at e1
    · rename_i k' et
      cases e1
      have : (!k') = k := Option.some.inj ek
      subst this
      exact ⟨m, r, hh, dx, h', k', w, st, e0, et, c⟩
    · cases e1

theorem dE_ite {cc a b : E} {z x y : PySem.Expr} {pos : Pos} (h_cc : SE N sc G cc z) (h_a : SE N sc G a x) (h_b : SE N sc G b y) : SE N sc G (.ite cc a b) (.IfExp z x y pos) := fun {X ca cl} xo go => by
  refine ⟨(pe_ifExp (h_cc xo go).2 (h_a xo go).1 (h_b xo go).1).wk fun s H Q ⟨m, r, hh, d, h', w, st, e1, c⟩ => ?_, ?_⟩

  · simp only [ev] at e1
    obtain ⟨dx, h1, e0, e1⟩ := Rs.bind_ok e1
    split at e1
    · rename_i et
      exact ⟨m, r, hh, dx, h1, true, w, st, e0, et, fun m' H' g w' => iteT (⟨m', r, h1, d, h', w', st.mono g, e1, fun m2 v H2 g2 => c m2 v H2 (g.trans g2)⟩)⟩
    · rename_i et
      exact ⟨m, r, hh, dx, h1, false, w, st, e0, et, fun m' H' g w' => iteF (⟨m', r, h1, d, h', w', st.mono g, e1, fun m2 v H2 g2 => c m2 v H2 (g.trans g2)⟩)⟩
    · cases e1
  · intro pins s σ H Q I ⟨m, r, hh, d, h', k, w, st, e1, ek, c⟩
    simp only [ev] at e1
    obtain ⟨dx, h1, e0, e1⟩ := Rs.bind_ok e1
    have hz' := (h_cc xo go).2
    have hx' := (h_a xo go).2
    have hy' := (h_b xo go).2
    show wpAny _ _ (do if ← isTrue z X.env (eval z X.env) then isTrue x X.env (eval x X.env) else isTrue y X.env (eval y X.env)) _ _ _
    split at e1
    · rename_i et
      refine wpAny_bind (thn (hz' pins s σ H (fun kb H1 => kb = true ∧ TDT X.K (ev G cl a) σ H1 Q) I ⟨m, r, hh, dx, h1, true, w, st, e0, et, fun m' H' g w' => ⟨rfl, m', r, h1, d, h', k, w', st.mono g, e1, ek, fun m2 H2 g2 => c m2 H2 (g.trans g2)⟩⟩) fun kb s1 ⟨H1, I1, eb, q1⟩ => ?_)
      subst eb
      exact hx' pins s1 σ H1 Q I1 q1
    · rename_i et
      refine wpAny_bind (thn (hz' pins s σ H (fun kb H1 => kb = false ∧ TDT X.K (ev G cl b) σ H1 Q) I ⟨m, r, hh, dx, h1, false, w, st, e0, et, fun m' H' g w' => ⟨rfl, m', r, h1, d, h', k, w', st.mono g, e1, ek, fun m2 H2 g2 => c m2 H2 (g.trans g2)⟩⟩) fun kb s1 ⟨H1, I1, eb, q1⟩ => ?_)
      subst eb
      exact hy' pins s1 σ H1 Q I1 q1
    · cases e1
theorem dE_ix {a b : E} {x y : PySem.Expr} {pos : Pos} (hs : PlainIx y) (h_a : SE N sc G a x) (h_b : SE N sc G b y) : SE N sc G (.ix a b) (.Subscript x y pos) := fun {X ca cl} xo go => by
  have p : PE X (.Subscript x y pos) (TDE X.K (ev G cl (.ix a b))) := (pe_ix (ixSeq xo.room) (h_a xo go).1 (h_b xo go).1 hs).wk (TDE.op fun r h => by simp only [ev])
  exact ⟨p, tOf p fun _ => rfl⟩
theorem dE_tup {l : Es} {es : List PySem.Expr} {k : Nat} {pos : Pos} (h_l : SAs N sc G l es) : SE N sc G (.tup l) (.Tuple es k pos) := fun {X ca cl} xo go => by

  have p : PE X (.Tuple es k pos) (TDE X.K (ev G cl (.tup l))) := (pe_tup (h_l.2 xo go)).wk fun s H Q ⟨m, r, hh, d, h', w, st, e1, c⟩ => by
    simp only [ev] at e1
    obtain ⟨ds, h1, e0, e1⟩ := Rs.bind_ok e1
    split at e1
    · rename_i hl
      cases e1
      refine ⟨m, r, hh, ds, _, w, st, e0, fun m' vs H' g w' rd => ⟨?_, fun q hq => ?_⟩⟩
      · rw [← rd.length]; exact Nat.le_of_lt (small1000 hl)
      · exact c m' _ _ (g.trans (Gr.tupNew hq)) (w'.keepNew hq) (.tup (.of upd_same) (rd.mono (Gr.tupNew hq)))
    · cases e1
  exact ⟨p, tOf p fun _ => rfl⟩

theorem dE_lst {l : Es} {es : List PySem.Expr} {pos : Pos} (h_l : SAs N sc G l es) : SE N sc G (.lst l) (.List es pos) := fun {X ca cl} xo go => by

  have p : PE X (.List es pos) (TDE X.K (ev G cl (.lst l))) := (pe_lst (h_l.2 xo go)).wk fun s H Q ⟨m, r, hh, d, h', w, st, e1, c⟩ => by
    simp only [ev] at e1
    obtain ⟨ds, h1, e0, e1⟩ := Rs.bind_ok e1
    split at e1
    · rename_i hl
      cases e1
      refine ⟨m, r, hh, ds, _, w, st, e0, fun m' vs H' g w' rd => ⟨?_, fun q hq => ?_⟩⟩
      · rw [← rd.length]; exact Nat.le_of_lt (small1000 hl)
      · obtain ⟨w2, g2⟩ := w'.lstNew hq rd
        exact c _ _ _ (g.trans g2) w2 (.ref (by rw [← w'.len]; simp))
    · cases e1
  exact ⟨p, tOf p fun _ => rfl⟩

theorem dE_call {f : Nat} {l : Es} {x : Str} {y : PySem.Expr} {ys : List PySem.Expr} {np pos : Pos} (h1 : G.fns[f]? = some x) (h : (glB sc x && noDbg x) = true) (h_l : SAs N sc G l (y :: ys)) : SE N sc G (.call f l) (.Call (.Name x np) (y :: ys) [] pos) := fun {X ca cl} xo go => by
  rw [Bool.and_eq_true] at h
  obtain ⟨h2, h3⟩ := h
  obtain ⟨d1, d2, d3⟩ := noDbg_ok h3
  obtain ⟨fa, fd, ps, k, F, hr, hm, hk, hb, hlen⟩ := go.fn f x h1
  have hns := h_l.1
  rw [List.all_cons, Bool.and_eq_true] at hns

  have p : PE X (.Call (.Name x np) (y :: ys) [] pos) (TDE X.K (ev G cl (.call f l))) := (pe_call F hr (glB_ok xo h2) hm hk hb .nil pass1 (h_l.2 xo go) d1 (star_one ys hns.1) (back_no pos hns.2)).wk fun s H Q ⟨m, r, hh, d, h', w, st, e1, c⟩ => by
    simp only [ev] at e1
    obtain ⟨ds, h1, e0, e1⟩ := Rs.bind_ok e1
    have e1 := Rs.nx_ok e1
    refine ⟨m, r, hh, ds, h1, w, st, e0, fun m' vs H' g w' rd => ?_⟩
    show spD X.K ca (cl f) ps.length (vs ++ []) H' Q E0
    rw [List.append_nil]
    exact ⟨by rw [← rd.length]; exact hlen _ _ (by rw [e1]; exact fun z => nomatch z), m', h1, ds, w', rd, by rw [e1]; exact fun m2 v H2 g2 => c m2 v H2 (g.trans g2)⟩
  exact ⟨p, tOf p fun _ => rfl⟩

theorem dE_blt {f : Blt} {l : Es} {y : PySem.Expr} {ys : List PySem.Expr} {np pos : Pos} (h2 : glB sc f.nm = true) (h_l : SAs N sc G l (y :: ys)) : SE N sc G (.blt f l) (.Call (.Name f.nm np) (y :: ys) [] pos) := fun {X ca cl} xo go => by
  obtain ⟨d1, d3⟩ := blt_dbg f
  have hns := h_l.1
  rw [List.all_cons, Bool.and_eq_true] at hns

  have im : ∀ s H Q, TDE X.K (ev G cl (.blt f l)) s H Q → tCB (rDc X.K (bltD f)) (TDA X.K (evs G cl l)) s H Q := fun s H Q ⟨m, r, hh, d, h', w, st, e1, c⟩ => by
    simp only [ev] at e1
    obtain ⟨ds, h1, e0, e1⟩ := Rs.bind_ok e1
    exact ⟨m, r, hh, ds, h1, w, st, e0, fun m' vs H' g w' rd => ⟨m', h1, ds, d, h', w', rd, e1, fun m2 v H2 g2 => c m2 v H2 (g.trans g2)⟩⟩
  have p : PE X (.Call (.Name f.nm np) (y :: ys) [] pos) (TDE X.K (ev G cl (.blt f l))) := by
    have cb := callBlt (X := X) xo.calm xo.room f
    have bb := boot_blt f
    have key : ∀ v, f.val = v → (∃ i, v = .builtin i) ∨ (∃ T, v = .type T) := fun v e => by subst e; cases f <;> first | exact .inl ⟨_, rfl⟩ | exact .inr ⟨_, rfl⟩
    rcases key _ rfl with ⟨i, ei⟩ | ⟨T, eT⟩
    · rw [ei] at cb bb
      exact (pe_callB cb (glB_ok xo h2) (go.blt f) bb (h_l.2 xo go) d3 d1 (star_one ys hns.1) (back_no pos hns.2)).wk im
    · rw [eT] at cb bb
      exact (pe_callTy cb (glB_ok xo h2) (go.blt f) bb (h_l.2 xo go) d3 d1 (star_one ys hns.1) (back_no pos hns.2)).wk im
  exact ⟨p, tOf p fun _ => rfl⟩

theorem dE_app {o a : E} {z : Str} {pz ap cp : Pos} {y : PySem.Expr} (h2 : (ap.endLine == cp.line) = true) (h3 : noStar y = true) (h_o : SE N sc G o (.Name z pz)) (h_a : SE N sc G a y) : SE N sc G (.app o a) (.Call (.Attribute (.Name z pz) "append" ap) [y] [] cp) := fun {X ca cl} xo go => by
  have ho := (h_o xo go).1

  have hA : PA X [y] (tCons (TDE X.K (ev G cl a)) tNil) := pa_cons ((h_a xo go).1) pa_nil (star_one [] h3)
  have p : PE X (.Call (.Attribute (.Name z pz) "append" ap) [y] [] cp) (TDE X.K (ev G cl (.app o a))) := (pe_bm PySem.F.plainAttrs_list PySem.F.slot_list_append PySem.F.type_list_append mt_append ho hA rfl (by rw [star_one [] h3]; rfl) h2 (star_one [] h3) rfl).wk fun s H Q q => by
    refine TDE.one (fun _ _ => rfl) q fun m m2 r d h2 h' H2 dx v st g w2 st2 rx e c => ?_
    split at e
    · rename_i hl
      obtain ⟨dy, h3, e3, e⟩ := Rs.bind_ok e
      cases rx <;> first | (cases e; done) | skip
      case ref n a' ha eb =>
        simp only [appD] at e
        split at e <;> first | (cases e; done) | skip
        rename_i l el
        split at e <;> first | (cases e; done) | skip
        rename_i hz
        cases e
        have hl' : ∃ l0, lstAt h2 n = some l0 := Option.isSome_iff_exists.mp hl
        obtain ⟨l0, hl'⟩ := hl'
        obtain ⟨a'', vs0, ha'', hq, _⟩ := w2.lst hl'
        rw [ha] at ha''; cases ha''
        refine ⟨.inl ⟨rfl, vs0, hq⟩, m2, r, h2, dy, h3, w2, st2, e3, fun m3 y' H3 g3 w3 ry => ?_⟩
        have ha3 := g3.pre _ _ ha
        obtain ⟨vs, hv, rv⟩ : ∃ vs, H3 a' = some (.lst vs) ∧ RDs X.K m3 H3 l vs := w3.ob n _ a' el ha3
        obtain ⟨_, w4, g4⟩ := w3.lstSet el ha3 (rv.append (.cons ry .nil))
        exact ⟨a', vs, y', rfl, rfl, hv, by rw [← rv.length]; exact Nat.lt_of_lt_of_le hz (by decide), c m3 _ _ (g3.trans g4) w4 .non⟩
    · cases e
  exact ⟨p, tOf p fun _ => rfl⟩

theorem cut_take {α : Type} (l : List α) (i : Int) (h : 0 ≤ i) : (l.drop (HT.sIx l.length 0 none)).take (HT.sIx l.length l.length (some i) - HT.sIx l.length 0 none) = l.take i.toNat := by
  have : HT.sIx l.length l.length (some i) = min i.toNat l.length := by
    show (if i < 0 then _ else _) = _
    rw [if_neg (by omega)]
  rw [HT.sIx_none, this, List.drop_zero, Nat.sub_zero]
  by_cases z : i.toNat ≤ l.length
  · rw [Nat.min_eq_left z]
  · rw [Nat.min_eq_right (by omega), List.take_length, List.take_of_length_le (by omega)]
theorem cut_drop {α : Type} (l : List α) (i : Int) (h : 0 ≤ i) : (l.drop (HT.sIx l.length 0 (some i))).take (HT.sIx l.length l.length none - HT.sIx l.length 0 (some i)) = l.drop i.toNat := by
  have : HT.sIx l.length 0 (some i) = min i.toNat l.length := by
    show (if i < 0 then _ else _) = _
    rw [if_neg (by omega)]
  rw [HT.sIx_none, this]
  by_cases z : i.toNat ≤ l.length
  · rw [Nat.min_eq_left z, List.take_of_length_le (by rw [List.length_drop]; omega)]
  · rw [Nat.min_eq_right (by omega), List.drop_length, List.drop_of_length_le (by omega), List.take_nil]
theorem RDs.take {K : PySem.W.Frag} {m : List Addr} {H : Hp} : ∀ {ds : List D} {vs : List V} (n : Nat), RDs K m H ds vs → RDs K m H (ds.take n) (vs.take n)
  | _, _, 0, _ => by rw [List.take_zero, List.take_zero]; exact .nil
  | _, _, n + 1, .nil => by rw [List.take_nil, List.take_nil]; exact .nil
  | _, _, n + 1, .cons h t => by rw [List.take_succ_cons, List.take_succ_cons]; exact .cons h (RDs.take n t)
theorem RDs.drop {K : PySem.W.Frag} {m : List Addr} {H : Hp} : ∀ {ds : List D} {vs : List V} (n : Nat), RDs K m H ds vs → RDs K m H (ds.drop n) (vs.drop n)
  | _, _, 0, q => q
  | _, _, n + 1, .nil => .nil
  | _, _, n + 1, .cons h t => RDs.drop n t
theorem dE_slU {a b : E} {x y : PySem.Expr} {p2 pos : Pos} (h_a : SE N sc G a x) (h_b : SE N sc G b y) : SE N sc G (.slU a b) (.Subscript x (.Slice none (some y) none p2) pos) := fun {X ca cl} xo go => by
  have p : PE X (.Subscript x (.Slice none (some y) none p2) pos) (TDE X.K (ev G cl (.slU a b))) := (pe_slice sl_list (h_a xo go).1 po_none (po_some (h_b xo go).1)).wk fun s H Q q => by
    obtain ⟨m, r, h, d, h', w, st, e, c⟩ := q
    rw [ev] at e
    refine TDE.two w st e fun m2 H2 h2 dx dy x y g w2 rx ry e => ?_
    unfold slUD at e
    split at e
    · rename_i l i hl el
      split at e
      · rename_i hi
        cases e
        obtain ⟨p, vs, rfl, hq, q⟩ := lst_of w2 rx hl el
        cases ry
        refine ⟨i, rfl, p, vs, rfl, hq, fun k hk => ?_⟩
        have e1 : cutV vs none (some i) = vs.take i.toNat := cut_take vs i hi
        rw [e1]
        obtain ⟨w3, g3⟩ := w2.lstNew hk (q.take i.toNat)
        exact c _ _ _ (g.trans g3) w3 (.ref (by rw [← w2.len]; simp))
      · cases e
    · cases e
  exact ⟨p, tOf p fun _ => rfl⟩
theorem dE_slL {a b : E} {x y : PySem.Expr} {p2 pos : Pos} (h_a : SE N sc G a x) (h_b : SE N sc G b y) : SE N sc G (.slL a b) (.Subscript x (.Slice (some y) none none p2) pos) := fun {X ca cl} xo go => by
  have p : PE X (.Subscript x (.Slice (some y) none none p2) pos) (TDE X.K (ev G cl (.slL a b))) := (pe_slice sl_list (h_a xo go).1 (po_some (h_b xo go).1) po_none).wk fun s H Q q => by
    obtain ⟨m, r, h, d, h', w, st, e, c⟩ := q
    rw [ev] at e
    refine TDE.two w st e fun m2 H2 h2 dx dy x y g w2 rx ry e => ?_
    unfold slLD at e
    split at e
    · rename_i l i hl el
      split at e
      · rename_i hi
        cases e
        obtain ⟨p, vs, rfl, hq, q⟩ := lst_of w2 rx hl el
        cases ry
        refine ⟨i, rfl, p, vs, rfl, hq, fun k hk => ?_⟩
        have e1 : cutV vs (some i) none = vs.drop i.toNat := cut_drop vs i hi
        rw [e1]
        obtain ⟨w3, g3⟩ := w2.lstNew hk (q.drop i.toNat)
        exact c _ _ _ (g.trans g3) w3 (.ref (by rw [← w2.len]; simp))
      · cases e
    · cases e
  exact ⟨p, tOf p fun _ => rfl⟩
theorem dE_dnt {pos : Pos} : SE N sc G .dnt (.Dict [] [] pos) := fun {X ca cl} xo go => by
  have p : PE X (.Dict [] [] pos) (TDE X.K (ev G cl .dnt)) := (pe_dnt (X := X) (pos := pos)).wk fun s H Q ⟨m, r, hh, d, h', w, st, e1, c⟩ => fun p hp => by
    rw [ev] at e1
    cases e1
    obtain ⟨w2, g2⟩ := w.objNew (o := .dtt []) (u := .ext (Dtt p [])) hp fun _ => ⟨[], [], upd_same, rfl, (fun x hx => nomatch hx), .nil, .nil⟩
    exact c _ _ _ g2 w2 (.ref (by rw [← w.len]; simp))
  exact ⟨p, tOf p fun _ => rfl⟩

theorem sa_nil : SAs N sc G .nil [] := ⟨rfl, fun {X ca cl} xo go => L2.PA.wk pa_nil fun s H Q ⟨m, r, hh, ds, h', w, st, e1, c⟩ => by
    cases e1
    exact c m [] H Gr.refl w .nil⟩
theorem sa_cons {c : E} {l : Es} {e : PySem.Expr} {es : List PySem.Expr} (hn : noStar e = true) (he : SE N sc G c e) (hl : SAs N sc G l es) : SAs N sc G (.cons c l) (e :: es) := ⟨by rw [List.all_cons, hn, hl.1]; rfl, fun {X ca cl} xo go => by
    refine L2.PA.wk (pa_cons (he xo go).1 (hl.2 xo go) (star_one es hn)) fun s H Q ⟨m, r, hh, ds, h', w, st, e1, cc⟩ => ?_
    simp only [evs] at e1
    obtain ⟨d, h1, e0, e1⟩ := Rs.bind_ok e1
    obtain ⟨ds', h2, e2, e1⟩ := Rs.bind_ok e1
    cases e1
    exact ⟨m, r, hh, d, h1, w, st, e0, fun m1 v H1 g1 w1 rv => ⟨m1, r, h1, ds', _, w1, st.mono g1, e2, fun m2 vs H2 g2 w2 rvs => cc m2 _ H2 (g1.trans g2) w2 (.cons (rv.mono g2) rvs)⟩⟩⟩
theorem sb_nil : SBs N sc G .nil [] := fun {X ca cl} xo go => fun pins s σ H Q I ⟨m, r, hh, b, h', w, st, e1, c⟩ => by
    rw [evt] at e1
    cases e1
    exact wpAny_pure ⟨H, I, c m H Gr.refl w⟩
theorem sb_cons {c : E} {l : Es} {e : PySem.Expr} {es : List PySem.Expr} (he : SE N sc G c e) (hl : SBs N sc G l es) : SBs N sc G (.cons c l) (e :: es) := fun {X ca cl} xo go => fun pins s σ H Q I ⟨m, r, hh, b, h', w, st, e1, cc⟩ => by
    rw [evt] at e1
    obtain ⟨d, h1, e0, e1⟩ := Rs.bind_ok e1
    refine tests_cons ?_
    split at e1
    · rename_i et
      refine thn ((he xo go).2 pins s σ H (fun k H1 => k = true ∧ TDB X.K (evt G cl l) σ H1 Q) I ⟨m, r, hh, d, h1, true, w, st, e0, et, fun m' H' g w' => ⟨rfl, m', r, h1, b, _, w', st.mono g, e1, fun m2 H2 g2 => cc m2 H2 (g.trans g2)⟩⟩) fun k s1 ⟨H1, I1, ek, q1⟩ => ?_
      subst ek
      exact hl xo go pins s1 σ H1 Q I1 q1
    · rename_i et
      cases e1
      refine thn ((he xo go).2 pins s σ H (fun k H1 => k = false ∧ Q false H1) I ⟨m, r, hh, d, _, false, w, st, e0, et, fun m' H' g w' => ⟨rfl, cc m' H' g w'⟩⟩) fun k s1 ⟨H1, I1, ek, q1⟩ => ?_
      subst ek
      exact tests_false ⟨H1, I1, q1⟩
    · cases e1
/-- what a comprehension's block asks of names -/
structure Blk (N : List Str) (sc : Scope) (N' : List Str) (cap : List Nat) (scope : Scope) : Prop where
  S : ScOk scope sc
  nd : N'.Nodup
  capL : cap.length ≤ N'.length
  nN : (N'.drop (N'.length - cap.length)).map some = cap.map (fun (i : Nat) => N[i]?)
  fr : ∀ x ∈ N'.drop (N'.length - cap.length), scope.names.lookup x = some .free
theorem blk_of {N' : List Str} {cap : List Nat} {scope : Scope} (h : (scOk scope sc && nodupB N' && capOk N N' cap scope) = true) : Blk N sc N' cap scope := by
  simp only [Bool.and_eq_true] at h
  obtain ⟨⟨h1, h2⟩, h3⟩ := h
  unfold capOk at h3
  simp only [Bool.and_eq_true, decide_eq_true_eq, beq_iff_eq, List.all_eq_true] at h3
  exact ⟨scOk_of h1, nodupB_ok h2, h3.1.1, h3.1.2, h3.2⟩
def tgOk : Ck → PySem.Expr → Bool
  | .its, .Tuple _ _ _ => true
  | .its, _ => false
  | _, _ => true
/-- what is walked -/
def SIt (N : List Str) (sc : Scope) (G : Gs) (k : Ck) (it : Es) (iter : PySem.Expr) : Prop := ∀ {X : Cx} {ca : Nat → Addr} {cl : Cl}, XOk X N sc → GOk X G ca cl → ∀ {t : Tg} {tg : PySem.Expr} {ft : Ev → Hh → Rs Bool} {fe : Ev → Hh → Rs D} {N' : List Str} {cap : List Nat} (_ : tgOk k tg = true)
    (pins : List (Addr × Obj)) (s : Shared) (σ : Sg) (H : Hp) (m : List Addr) (r : Ev) (h : Hh) (xs : List D) (h1 h' : Hh), Inv X pins σ H s → Wd X.K m h H → RSt X.K m H r σ → evs G cl it r h = .ok xs h1 → compL t ft fe h1.length k xs h1 (blockE N' cap r) (h1 ++ [.lst []]) = .ok () h' →
    wpAny (model X.prog X.w) X.A (eval iter X.env) (fun v s1 => wpAny (model X.prog X.w) X.A (pyIter v)
      (PIE X pins σ tg fun J H2 => ∃ (m2 : List Addr) (h2 : Hh), h2.length = h1.length ∧ Gr X.K m H m2 H2 ∧ Wd X.K m2 h2 H2 ∧ Turns X.K t ft fe h2.length h' J m2 H2 (blockE N' cap r) (h2 ++ [.lst []])) X.xe s1) X.xe s
theorem it_sq {a : E} {x : PySem.Expr} (ha : SE N sc G a x) : SIt N sc G .sq (.cons a .nil) x := fun {X ca cl} xo go {t tg ft fe N' cap} tk pins s σ H m r h xs h1 h' I w st e1 e3 => by
  have hp := (ha xo go).1
  rw [evs] at e1
  obtain ⟨x, h5, ex, e1⟩ := Rs.bind_ok e1
  rw [evs] at e1
  obtain ⟨_, _, e4, e1⟩ := Rs.bind_ok e1
  cases e4; cases e1
  cases x <;> first | (cases e3; done) | skip
  · refine pi_tup hp pins s σ H _ I ⟨m, r, h, _, _, w, st, ex, fun m' v H' g w' rv => ?_⟩
    cases rv with
    | tup hq q => exact ⟨_, rfl, ⟨_, hq⟩, m', _, rfl, g, w', turns_tup hq q e3⟩
  · rename_i n
    simp only [compL] at e3
    split at e3
    · rename_i l el
      refine pi_list hp pins s σ H _ I ⟨m, r, h, _, _, w, st, ex, fun m' v H' g w' rv => ?_⟩
      cases rv with
      | ref ha =>
        obtain ⟨a', vs, ha', hq, _⟩ := w'.lst el
        rw [ha] at ha'; cases ha'
        exact ⟨_, rfl, ⟨_, hq⟩, m', _, rfl, g, w', turns_lst ha e3⟩
    · cases e3
theorem it_r1 {a : E} {y : PySem.Expr} {p pos : Pos} (hg : glB sc "range" = true) (hs : noStar y = true) (ha : SE N sc G a y) : SIt N sc G .r1 (.cons a .nil) (.Call (.Name "range" p) [y] [] pos) := fun {X ca cl} xo go {t tg ft fe N' cap} tk pins s σ H m r h xs h1 h' I w st e1 e3 => by
  have hA := sa_cons hs ha (sa_nil (N := N) (sc := sc) (G := G))
  refine pi_range1 (glB_ok xo hg) xo.rng (hA.2 xo go) (star_one [] hs) pins s σ H _ I ⟨m, r, h, xs, h1, w, st, e1, fun m' vs H' g w' rv => ?_⟩
  rcases xs with _ | ⟨x, _ | ⟨y, xs⟩⟩ <;> first | (cases e3; done) | (cases x <;> (cases e3; done)) | skip
  cases x <;> first | (cases e3; done) | skip
  rename_i j
  simp only [compL] at e3
  split at e3
  · rename_i ho
    cases rv with
    | cons rx rv =>
      cases rx; cases rv
      have tt := turns_rng (K := X.K) (m2 := m') (H2 := H') (lo := 0) (hi := j) e3
      exact ⟨j, rfl, ho.1, ho.2, m', _, rfl, g, w', by simpa using tt⟩
  · cases e3
theorem zip_rel {K : PySem.W.Frag} {m : List Addr} {H : Hp} : ∀ {ds : List (List Int × D)} {xs : List (List Int × Addr × Value)} {us : List V}, ds.map (·.1) = xs.map (·.1) → (∀ x ∈ xs, SqT K H x.2.1 (x.1.map V.int)) → RDs K m H (ds.map (·.2)) us → Vals us (xs.map (·.2.2)) →
    ∃ ks : List (Addr × V), ks.length = xs.length ∧ ds.length = ks.length ∧ (∀ (i : Nat) k v, ks[i]? = some (k, v) → ∃ x, xs[i]? = some x ∧ x.2.1 = k ∧ RelV v x.2.2) ∧ ∀ (i : Nat) d, ds[i]? = some d → ∃ k v, ks[i]? = some (k, v) ∧ SqT K H k (d.1.map V.int) ∧ RD K m H d.2 v
  | [], [], us, _, _, r, p => ⟨[], rfl, rfl, fun i k v e => by simp at e, fun i d e => by simp at e⟩
  | [], _ :: _, us, h, _, _, _ => by cases h
  | _ :: _, [], us, h, _, _, _ => by cases h
  | d :: ds, x :: xs, us, h, hk, r, p => by
    cases r with
    | @cons _ v1 _ _ r1 r =>
      cases p with
      | cons p1 p =>
        obtain ⟨h1, h2⟩ := List.cons.inj (show d.1 :: ds.map (·.1) = x.1 :: xs.map (·.1) from h)
        obtain ⟨ks, a, a', b, c⟩ := zip_rel h2 (fun y hy => hk y (List.mem_cons_of_mem _ hy)) r p
        refine ⟨(x.2.1, v1) :: ks, by simp [a], by simp [a'], fun i k v e => ?_, fun i d' e => ?_⟩
        · cases i with
          | zero =>
            simp at e
            obtain ⟨rfl, rfl⟩ := e
            exact ⟨x, rfl, rfl, p1⟩
          | succ i => exact b i k v (by simpa using e)
        · cases i with
          | zero =>
            simp at e
            subst e
            exact ⟨x.2.1, v1, rfl, by rw [h1]; exact hk x List.mem_cons_self, r1⟩
          | succ i => exact c i d' (by simpa using e)
theorem it_its {a : E} {nz : Str} {pz ap cp : Pos} (h2 : (ap.endLine == cp.line) = true) (ha : SE N sc G a (.Name nz pz)) : SIt N sc G .its (.cons a .nil) (.Call (.Attribute (.Name nz pz) "items" ap) [] [] cp) := fun {X ca cl} xo go {t tg ft fe N' cap} tk pins s σ H m r h xs h1 h' I w st e1 e3 => by
  have hp := (ha xo go).1
  rw [evs] at e1
  obtain ⟨x, h5, ex, e1⟩ := Rs.bind_ok e1
  rw [evs] at e1
  obtain ⟨_, _, e4, e1⟩ := Rs.bind_ok e1
  cases e4; cases e1
  obtain ⟨n, rfl⟩ : ∃ n, x = .ref n := by cases x <;> first | exact ⟨_, rfl⟩ | (cases e3; done)
  simp only [compL] at e3
  split at e3
  · rename_i l el
    cases tg <;> first | (cases tk; done) | skip
    rename_i elts j tp
    refine wpAny_Call_method0_late rfl h2 (thn (hp pins s σ H (fun v H' => ∃ m', Gr X.K m H m' H' ∧ Wd X.K m' h1 H' ∧ RD X.K m' H' (.ref n) v) I ⟨m, r, h, _, _, w, st, ex, fun m' v H' g w' rv => ⟨m', g, w', rv⟩⟩) fun u s1 ⟨v, H1, I1, rv, m1, g1, w1, rd⟩ => ?_)
    cases rd with
    | @ref _ d hd =>
      obtain rfl : u = Value.ref d := rv
      obtain ⟨xs, us, x1, x2, x3, x4, x5⟩ : RO X.K m1 H1 d (.dtt l) := w1.ob n _ d el hd
      obtain ⟨d1, d2, P0, w0, o, es, ep, d3, d4, d5, d6, d7⟩ := Dtt.of I1 x1
      have ty : s1.TypeIs (.ref d) "dict" := ⟨o, d3, d4.1⟩
      refine ⟨"dict", "dict.items", PySem.F.plainAttrs_dict, PySem.F.slot_dict_items, PySem.F.type_dict_items, ty, fun b q => by cases q; exact ⟨o, d3, d4.2.1⟩, Calls.callWith_builtin rfl (PySem.evalArgs_none ?_)⟩
      refine call_meetsIn PySem.F.slot_dict_items ty PySem.F.entry_dict_items (PySem.F.args_dict_items_1 _) (meets_items d d1) ⟨ty, ?_⟩
      have k1 : ∀ b u, s1.heap.get? b = some u → (s1.heap.push { cls := .type "dict_items", data := .fields #[.ref d] }).get? b = some u := fun b u q => Heap.get?_push_of_some _ q
      have I2 := I1.kept (t' := s1.toks) k1
      refine itm_iter (ov := { cls := .type "dict_items", data := .fields #[.ref d] }) (od := o) (es := es) (ep := ep) (Heap.get?_push_size _ rfl) rfl rfl (k1 _ _ d3) d5 ?_
      generalize hs2 : (s1.heap.push { cls := .type "dict_items", data := .fields #[.ref d] }) = g2 at I2 k1 ⊢
      have d3' := k1 _ _ d3
      have k2 : ∀ b u, g2.get? b = some u → (g2.push { cls := .type "dict_itemiterator", data := .fields #[.none, .bool false, .ref d, .int 0 0, .int es.size 0, .int ep 0, .none, .none] }).get? b = some u := fun b u q => Heap.get?_push_of_some _ q
      have I3 := L2.Inv.kept (s := { s1 with heap := g2 }) (t' := s1.toks) I2 k2
      have I4 := d_write (a := d) (ob := .frz o (.own d)) (t' := s1.toks) I3 (by rw [x1]; exact True.intro) ⟨rfl, fun _ _ => rfl⟩ ⟨o, k2 _ _ d3'⟩ ⟨k2 _ _ d3', o, k2 _ _ d3'⟩
      obtain ⟨w2, gg2⟩ := w1.objSet (o' := .ded) (u := .frz o (.own d)) el rfl hd fun _ => trivial
      obtain ⟨ks, b1, b0, b2, b3⟩ := zip_rel x2 (fun x hx => gg2.tup _ _ (x3 x hx)) (x4.mono gg2) x5
      have esz : es.size = ks.length := by
        have := congrArg List.length d6
        simp at this
        omega
      have hit : (upd H1 d (.frz o (.own d))) g2.objs.size = none := by
        have := I2.hok.fresh (Nat.le_refl g2.objs.size)
        rw [upd_ne (Ne.symm (Nat.ne_of_lt (Heap.lt_size d3')))]
        exact this
      have el' : n < h1.length := (List.getElem?_eq_some_iff.mp el).1
      rw [List.set_append_left _ _ el'] at e3
      refine ⟨g2.objs.size, [g2.objs.size], _, Itd d o ks, _, rfl, I4, turn_items (it := g2.objs.size) d5 esz (fun i k v e => ?_), ⟨.none, .none, by rw [← esz]; exact Heap.get?_push_size _ rfl⟩, fun b hb => ?_, m1, h1.set n .ded, by simp, g1.trans gg2, w2, ?_⟩
      · obtain ⟨x, f1, f2, f3⟩ := b2 i k v e
        refine ⟨entryOfKey (tupleKind (intKind P0 w0)) x, ?_, by rw [← f2]; rfl, f3⟩
        rw [← Array.getElem?_toList, d6, List.getElem?_map, f1]; rfl
      · have e : b = g2.objs.size := by simpa using hb
        subst e
        exact L2.Inv.fpOk I2 (Nat.le_refl _) hit
      · rw [List.length_set]
        refine turns_laid e3 (fun i dd m h H g w e => ?_) fun i m H g hi => ⟨g.frz _ _ _ upd_same, by rw [List.length_map] at hi; omega⟩
        rw [List.getElem?_map, Option.map_eq_some_iff] at e
        obtain ⟨p, ep', rfl⟩ := e
        obtain ⟨k, v, c1, c2, c3⟩ := b3 i p ep'
        refine ⟨⟨g.frz _ _ _ upd_same, (List.getElem?_eq_some_iff.mp c1).1⟩, fun x H' ⟨q, k', v', y1, y2, y3, y4⟩ => ?_⟩
        rw [c1] at y2; cases y2
        subst y3 y4
        have gt := Gr.tupNew (K := X.K) (m := m) (o := .tup [.ref k, v]) y1
        exact ⟨gt, w.keepNew y1, .tup (.of upd_same) (.cons (.tup (gt.tup _ _ (g.tup _ _ c2)) (RDs.ints p.1)) (.cons ((c3.mono g).mono gt) .nil))⟩
  · cases e3
/-- a comprehension's walk, as comp_pe and comp_ps ask for it -/
theorem comp_w {t : Tg} {k : Ck} {it cs : Es} {e : E} {N' : List Str} {cap : List Nat} {tg iter : PySem.Expr} (hi : SIt N sc G k it iter) (tk : tgOk k tg = true) {X : Cx} {ca : Nat → Addr} {cl : Cl} (xo : XOk X N sc) (go : GOk X G ca cl)
    (pins : List (Addr × Obj)) (s : Shared) (σ : Sg) (H : Hp) (m : List Addr) (r : Ev) (h : Hh) (d : D) (h' : Hh) (I : Inv X pins σ H s) (w : Wd X.K m h H) (st : RSt X.K m H r σ) (ev1 : ev G cl (.comp t k it cs e N' cap) r h = .ok d h') :
    ∃ h1 : Hh, d = .ref h1.length ∧ wpAny (model X.prog X.w) X.A (eval iter X.env) (fun v s1 => wpAny (model X.prog X.w) X.A (pyIter v)
      (PIE X pins σ tg fun J H2 => ∃ (m2 : List Addr) (h2 : Hh), h2.length = h1.length ∧ Gr X.K m H m2 H2 ∧ Wd X.K m2 h2 H2 ∧ Turns X.K t (evt G cl cs) (ev G cl e) h2.length h' J m2 H2 (blockE N' cap r) (h2 ++ [.lst []])) X.xe s1) X.xe s := by
  rw [ev] at ev1
  obtain ⟨xs, hh1, e1, e2⟩ := Rs.bind_ok ev1
  obtain ⟨_, hh2, e3, e2⟩ := Rs.bind_ok e2
  cases e2
  exact ⟨hh1, rfl, hi xo go tk pins s σ H m r h xs hh1 _ I w st e1 e3⟩
theorem comp_blk {t : Tg} {cs : Es} {e : E} {N' : List Str} {cap : List Nat} {elt tg : PySem.Expr} {ifs : List PySem.Expr} {scope : Scope} (B : Blk N sc N' cap scope) (ht : chkT' N' scope t tg = true) (hc : SBs N' (relab scope sc) G cs ifs) (he : SE N' (relab scope sc) G e elt) {X : Cx} {ca : Nat → Addr} {cl : Cl} (xo : XOk X N sc) (go : GOk X G ca cl) (C : Addr) (s3 : Shared) (H3 : Hp) (fp : List Addr) :
    PG (blkX X N' scope C s3 H3 fp) tg (TDG X.K t) ∧ PTs (blkX X N' scope C s3 H3 fp) ifs (TDB X.K (evt G cl cs)) ∧ PE (blkX X N' scope C s3 H3 fp) elt (TDE X.K (ev G cl e)) :=
  ⟨pgT' (blk_xo xo B.nd C s3 H3 fp) (blk_loc (by rw [xo.s]; exact B.S) C s3 H3 fp) ht, hc (blk_xo xo B.nd C s3 H3 fp) (blk_go go C s3 H3 fp), (he (blk_xo xo B.nd C s3 H3 fp) (blk_go go C s3 H3 fp)).1⟩
theorem dE_comp {t : Tg} {k : Ck} {it cs : Es} {e : E} {N' : List Str} {cap : List Nat} {elt tg iter : PySem.Expr} {ifs : List PySem.Expr} {scope : Scope} {pos : Pos} (B : Blk N sc N' cap scope) (ns : noSet iter = true) (ht : chkT' N' scope t tg = true) (hi : SIt N sc G k it iter) (hc : SBs N' (relab scope sc) G cs ifs) (he : SE N' (relab scope sc) G e elt) (tk : tgOk k tg = true := by rfl) :
    SE N sc G (.comp t k it cs e N' cap) (.ListComp elt [⟨tg, iter, ifs, 0⟩] scope pos) := fun {X ca cl} xo go => by
  have p : PE X (.ListComp elt [⟨tg, iter, ifs, 0⟩] scope pos) (TDE X.K (ev G cl (.comp t k it cs e N' cap))) := comp_pe xo B.S B.capL B.nN B.fr (comp_blk B ht hc he xo go) ns (comp_w hi tk xo go)
  exact ⟨p, tOf p fun _ => rfl⟩
end
end Ng
end
section
set_option Elab.async false
set_option linter.all false
set_option maxRecDepth 100000
set_option maxHeartbeats 4000000
set_option autoImplicit false
namespace Ng
open PySem PySem.Spec PyProof.Rows L2
inductive Ir where
  | r1 (e : E) | r2 (a b : E) | sq (e : E)
/-- what an except suite may hold: tests of the exception's class, plain stores -/
inductive HB where
  | isx (k : Nat) | isv | and (a b : HB)
inductive HS where
  | bl (i : Nat) (b : HB) | cst (i : Nat) (d : Sum Bool Str)
def HB.run (sub : List (Nat × Nat)) (c : Nat) : HB → Option Bool
  | .isx k => if (c, k) ∈ sub then some true else none
  | .isv => some true
  | .and a b => match a.run sub c, b.run sub c with
    | some true, some y => some y
    | _, _ => none
def cstD : Sum Bool Str → D
  | .inl b => .bl b
  | .inr x => .str x
def hrun (sub : List (Nat × Nat)) (c : Nat) : List HS → Ev → Option Ev
  | [], r => some r
  | .bl i b :: l, r => match b.run sub c with
    | some v => hrun sub c l (r.set i (some (.bl v)))
    | none => none
  | .cst i d :: l, r => hrun sub c l (r.set i (some (cstD d)))
def clr : Option Nat → Ev → Ev
  | some j, r => r.set j none
  | none, r => r
mutual
inductive S where
  | rais (c : Nat) (x : Str) | asgX (t : Tg) (f : Nat) (l : Es) | retX (f : Nat) (l : Es) | exX (f : Nat) (l : Es) | tryx (b : Ss) (g : Nat) (j : Option Nat) (hs : List HS)
  | asg (t : Tg) (e : E) | asc (i : Nat) (e : E) | ex (e : E) | ret (e : E) | iff (c : E) (a b : Ss) | forr (t : Tg) (it : Ir) (b : Ss) | whl (c : E) (b : Ss)
  | pass | brk | cont | stx (o i e : E) | never
inductive Ss where
  | nil | cons (s : S) (r : Ss)
end
inductive Fl where
  | nx (r : Ev) | rt (d : D) | bk (r : Ev) | ct (r : Ev)
def forS (t : Tg) (body : Ev → Hh → Rs Fl) : List D → Ev → Hh → Rs Fl
  | [], r, h => .ok (.nx r) h
  | d :: ds, r, h => match setT t d r with
    | none => .bad
    | some r1 => (body r1 h).bind fun fl h => match fl with
      | .nx r2 => forS t body ds r2 h
      | .ct r2 => forS t body ds r2 h
      | .bk r2 => .ok (.nx r2) h
      | .rt d => .ok (.rt d) h
def forI (t : Tg) (body : Ev → Hh → Rs Fl) (n : Nat) : Nat → Nat → Ev → Hh → Rs Fl
  | 0, _, _, _ => .bad
  | k + 1, i, r, h => match lstAt h n with
    | none => .bad
    | some l => match l[i]? with
      | none => .ok (.nx r) h
      | some d => match setT t d r with
        | none => .bad
        | some r1 => (body r1 h).bind fun fl h => match fl with
          | .nx r2 => forI t body n k (i + 1) r2 h
          | .ct r2 => forI t body n k (i + 1) r2 h
          | .bk r2 => .ok (.nx r2) h
          | .rt d => .ok (.rt d) h
def whileF (c : Ev → Hh → Rs D) (body : Ev → Hh → Rs Fl) : Nat → Ev → Hh → Rs Fl
  | 0, _, _ => .bad
  | k + 1, r, h => (c r h).nx.bind fun x h => match truD x h with
    | none => .bad
    | some false => .ok (.nx r) h
    | some true => (body r h).bind fun fl h => match fl with
      | .nx r2 => whileF c body k r2 h
      | .ct r2 => whileF c body k r2 h
      | .bk r2 => .ok (.nx r2) h
      | .rt d => .ok (.rt d) h
def stxL (n : Nat) (l : List D) (y z : D) (h : Hh) : Rs Unit := match y with
  | .int k => match ixN l.length k with
    | some j => .ok () (h.set n (.lst (l.set j z)))
    | none => .bad
  | _ => .bad
def stxD (x y z : D) (h : Hh) : Rs Unit := match x with
  | .ref n => match h[n]? with
    | some (.lst l) => stxL n l y z h
    | some (.dct _) => dputD n y z h
    | some (.dtt l) => dputT n l y z h
    | _ => .bad
  | _ => .bad
def forD (W : Nat) (t : Tg) (body : Ev → Hh → Rs Fl) (x : D) (r : Ev) (h : Hh) : Rs Fl := match x with
  | .tup l => forS t body l r h
  | .ref n => forI t body n W 0 r h
  | _ => .bad
def catchD (sub : List (Nat × Nat)) (g : Nat) (j : Option Nat) (hs : List HS) : Rs Fl → Rs Fl
  | .exc c r h => if (c, g) ∈ sub then (match hrun sub c hs (clr j r) with
    | some r' => .ok (.nx (clr j r')) h
    | none => .bad) else .bad
  | o => o
mutual
noncomputable def xs (G : Gs) (cl : Cl) (W : Nat) : S → Ev → Hh → Rs Fl
  | .rais c _, r, h => .exc c r h
  | .asgX t f l, r, h => (evs G cl l r h).nx.bind fun ds h => ((cl f ds h).inn r).bind fun x h => match setT t x r with
    | some r1 => .ok (.nx r1) h
    | none => .bad
  | .retX f l, r, h => (evs G cl l r h).nx.bind fun ds h => ((cl f ds h).inn r).bind fun x h => .ok (.rt x) h
  | .exX f l, r, h => (evs G cl l r h).nx.bind fun ds h => ((cl f ds h).inn r).bind fun _ h => .ok (.nx r) h
  | .tryx b g j hs, r, h => catchD G.sub g j hs (xss G cl W b r h)
  | .asg t e, r, h => (ev G cl e r h).nx.bind fun x h => match setT t x r with
    | some r1 => .ok (.nx r1) h
    | none => .bad
  | .asc i e, r, h => (ev G cl e r h).nx.bind fun x h => .ok (.nx (r.set i (some x))) h
  | .ex e, r, h => (ev G cl e r h).nx.bind fun _ h => .ok (.nx r) h
  | .ret e, r, h => (ev G cl e r h).nx.bind fun x h => .ok (.rt x) h
  | .iff c a b, r, h => (ev G cl c r h).nx.bind fun x h => match truD x h with
    | some true => xss G cl W a r h
    | some false => xss G cl W b r h
    | none => .bad
  | .forr t (.r1 e) b, r, h => (ev G cl e r h).nx.bind fun x h => match x with
    | .int j => if okR j then forS t (xss G cl W b) (rngD 0 j) r h else .bad
    | _ => .bad
  | .forr t (.r2 e e') b, r, h => (ev G cl e r h).nx.bind fun x h => (ev G cl e' r h).nx.bind fun y h => match x, y with
    | .int i, .int j => if okR i ∧ okR j then forS t (xss G cl W b) (rngD i j) r h else .bad
    | _, _ => .bad
  | .forr t (.sq e) b, r, h => (ev G cl e r h).nx.bind fun x h => forD W t (xss G cl W b) x r h
  | .whl c b, r, h => whileF (ev G cl c) (xss G cl W b) W r h
  | .pass, r, h => .ok (.nx r) h
  | .brk, r, h => .ok (.bk r) h
  | .cont, r, h => .ok (.ct r) h
  | .stx o i e, r, h => (ev G cl e r h).nx.bind fun z h => (ev G cl o r h).nx.bind fun x h => (ev G cl i r h).nx.bind fun y h => (stxD x y z h).nx.bind fun _ h => .ok (.nx r) h
  | .never, _, _ => .bad
noncomputable def xss (G : Gs) (cl : Cl) (W : Nat) : Ss → Ev → Hh → Rs Fl
  | .nil, r, h => .ok (.nx r) h
  | .cons s l, r, h => (xs G cl W s r h).bind fun fl h => match fl with
    | .nx r2 => xss G cl W l r2 h
    | f => .ok f h
end
def noComp : PySem.Expr → Bool
  | .ListComp _ _ _ _ => false
  | .SetComp _ _ _ _ => false
  | .DictComp _ _ _ _ _ => false
  | _ => true
def chkNs (N : List Str) (sc : Scope) : List Nat → List PySem.Expr → Bool
  | [], [] => true
  | i :: is, .Name x _ :: es => N[i]? == some x && locB sc x && chkNs N sc is es
  | _, _ => false
def chkT (N : List Str) (sc : Scope) : Tg → PySem.Expr → Bool
  | .nm i, .Name x _ => N[i]? == some x && locB sc x
  | .tp l, .Tuple es _ _ => chkNs N sc l es
  | _, _ => false
mutual
/-- no raise of its own: a try's body -/
def noRs : S → Bool
  | .rais _ _ => false
  | .iff _ a b => noRss a && noRss b
  | .forr _ _ b => noRss b
  | .whl _ b => noRss b
  | .tryx _ _ _ _ => false
  | _ => true
def noRss : Ss → Bool
  | .nil => true
  | .cons s l => noRs s && noRss l
end
def FlOk (K : PySem.W.Frag) (m : List Addr) (H : Hp) (D : Ends) : Fl → Prop
  | .nx r => ∀ s, RSt K m H r s → D.nx s H
  | .rt d => ∀ v, RD K m H d v → D.rt v H
  | .bk r => ∀ s, RSt K m H r s → D.bk s H
  | .ct r => ∀ s, RSt K m H r s → D.ct s H
abbrev Ws := Nat → Sg → Hp → Prop
/-- what is wanted of an end, or of an exception -/
def OutS (K : PySem.W.Frag) (W : Ws) (m : List Addr) (H : Hp) (D : Ends) : Rs Fl → Prop
  | .ok fl h' => ∀ m' H', Gr K m H m' H' → Wd K m' h' H' → FlOk K m' H' D fl
  | .exc c r' h' => ∀ m' H' s', Gr K m H m' H' → Wd K m' h' H' → RSt K m' H' r' s' → W c s' H'
  | .bad => False
theorem OutS.mono {K : PySem.W.Frag} {W : Ws} {m m1 : List Addr} {H H1 : Hp} {D : Ends} (g : Gr K m H m1 H1) : ∀ {o : Rs Fl}, OutS K W m H D o → OutS K W m1 H1 D o
  | .ok _ _, q => fun m' H' g' => q m' H' (g.trans g')
  | .exc _ _ _, q => fun m' H' s' g' => q m' H' s' (g.trans g')
  | .bad, q => q
def TDS (K : PySem.W.Frag) (W : Ws) (f : Ev → Hh → Rs Fl) : TS := fun D s H => ∃ m r h, Wd K m h H ∧ RSt K m H r s ∧ OutS K W m H D (f r h)
theorem _root_.L2.PS.wk {X : Cx} {e : PySem.Stmt} {t t' : TS} (h : PS X e t) (i : ∀ D s H, t' D s H → t D s H) : PS X e t' := fun pins s σ H D I q => h pins s σ H D I (i _ _ _ q)
theorem _root_.L2.PSs.wk {X : Cx} {e : List PySem.Stmt} {t t' : TS} (h : PSs X e t) (i : ∀ D s H, t' D s H → t D s H) : PSs X e t' := fun pins s σ H D I q => h pins s σ H D I (i _ _ _ q)
section
variable {X : Cx} {N : List Str} {sc : Scope} {G : Gs} {ca : Nat → Addr} {cl : Cl}
theorem chkNs_of : ∀ {l : List Nat} {es : List PySem.Expr}, chkNs N sc l es = true → l.length = es.length ∧ ∀ (j : Nat) i e, l[j]? = some i → es[j]? = some e → chkT N sc (.nm i) e = true
  | [], [], _ => ⟨rfl, fun j i e h => by simp at h⟩
  | i :: is, e :: es, h => by
    cases e <;> first | exact absurd (show false = true from h) Bool.false_ne_true | skip
    rename_i x pos
    have h' : (N[i]? == some x && locB sc x && chkNs N sc is es) = true := h
    rw [Bool.and_eq_true] at h'
    obtain ⟨i1, i2⟩ := chkNs_of h'.2
    refine ⟨by simp [i1], fun j i' e' e1 e2 => ?_⟩
    cases j with
    | zero =>
      simp at e1 e2
      subst e1; subst e2
      exact h'.1
    | succ j => exact i2 j i' e' (by simpa using e1) (by simpa using e2)
  | [], _ :: _, h => absurd (show false = true from h) Bool.false_ne_true
  | _ :: _, [], h => absurd (show false = true from h) Bool.false_ne_true
theorem pgT (xo : XOk X N sc) (hfn : ∀ x, X.fn x = true) {t : Tg} {tg : PySem.Expr} (h : chkT N sc t tg = true) : PG X tg (TDG X.K t) := by
  refine pgT_of (fun e i => chkT N sc (.nm i) e) (fun e i he => ?_) xo.calm ?_
  · cases e <;> first | exact absurd (show false = true from he) Bool.false_ne_true | skip
    rename_i x pos
    have h' : (N[i]? == some x && locB sc x) = true := he
    simp only [Bool.and_eq_true, beq_iff_eq] at h'
    exact ⟨x, pos, rfl, pg_name xo.nd (by rw [xo.n]; exact h'.1) (by rw [xo.s]; exact locB_ok h'.2) (.inl (hfn x))⟩
  · cases t with
    | nm i => exact h
    | tp l =>
      cases tg <;> first | exact absurd (show false = true from h) Bool.false_ne_true | skip
      rename_i es k pos
      obtain ⟨h1, h2⟩ := chkNs_of (show chkNs N sc l es = true from h)
      exact ⟨es, k, pos, rfl, h1, h2⟩
end
end Ng
end
section
set_option Elab.async false
set_option linter.all false
set_option maxRecDepth 100000
set_option maxHeartbeats 4000000
set_option autoImplicit false
namespace Ng
open PySem PySem.Spec PyProof.Rows L2
section
variable {X : Cx} {N : List Str} {sc : Scope} {G : Gs} {cl : Cl} {W : Nat} {K : PySem.W.Frag} {Wx : Ws}
/-- behind an expression that may raise nothing -/
theorem OutS.nx {A : Type} {m : List Addr} {H : Hp} {Z : Ends} {a : Rs A} {k : A → Hh → Rs Fl} (q : OutS K Wx m H Z (a.nx.bind k)) : ∃ d h1, a = .ok d h1 ∧ OutS K Wx m H Z (k d h1) := by
  cases a with
  | ok d h1 => exact ⟨d, h1, rfl, q⟩
  | exc c r h => exact q.elim
  | bad => exact q.elim
/-- what a loop's body does to what is wanted: the loop's own ends -/
theorem OutS.body {Z : Ends} {m : List Addr} {H : Hp} {P : Sg → Hp → Prop} {o : Rs Fl} {next : Ev → Hh → Rs Fl}
    (e : OutS K Wx m H Z (o.bind fun fl h => match fl with
      | .nx r2 => next r2 h
      | .ct r2 => next r2 h
      | .bk r2 => .ok (.nx r2) h
      | .rt d => .ok (.rt d) h))
    (hP : ∀ m' H' h' r s, Gr K m H m' H' → Wd K m' h' H' → RSt K m' H' r s → OutS K Wx m' H' Z (next r h') → P s H') : OutS K Wx m H { Z with nx := P, ct := P, bk := Z.nx } o := by
  cases o with
  | bad => exact e
  | exc c r h => exact e
  | ok fl h2 =>
    intro m' H' g w
    have e' := OutS.mono g e
    cases fl with
    | nx r => exact fun s st => hP m' H' h2 r s g w st e'
    | ct r => exact fun s st => hP m' H' h2 r s g w st e'
    | bk r => exact fun s st => e' m' H' .refl w s st
    | rt d => exact fun v rd => e' m' H' .refl w v rd
/-- one turn of a loop over items that stay -/
theorem turnS {t : Tg} {body : Ev → Hh → Rs Fl} {Z : Ends} {d : D} {ds : List D} {P : Sg → Hp → Prop} {m1 : List Addr} {r1 : Ev} {h1 : Hh} {s1 : Sg} {H1 : Hp} {v : V}
    (w : Wd K m1 h1 H1) (st : RSt K m1 H1 r1 s1) (rd : RD K m1 H1 d v) (e : OutS K Wx m1 H1 Z (forS t body (d :: ds) r1 h1))
    (hP : ∀ m2 H2 r2 h2 s2, Gr K m1 H1 m2 H2 → Wd K m2 h2 H2 → RSt K m2 H2 r2 s2 → OutS K Wx m2 H2 Z (forS t body ds r2 h2) → P s2 H2) :
    TDG K t v s1 H1 fun s2 H2 => TDS K Wx body { Z with nx := P, ct := P, bk := Z.nx } s2 H2 := by
  simp only [forS] at e
  split at e
  · exact e.elim
  · rename_i r2 er
    exact ⟨m1, h1, r1, d, r2, w, st, rd, er, fun s2 st2 => ⟨m1, r2, h1, w, st2, OutS.body (next := forS t body ds) e fun m' H' h' r s g w' st' e' => hP m' H' r h' s g w' st' e'⟩⟩
theorem for_tupD {t : Tg} {body : Ev → Hh → Rs Fl} {Z : Ends} {m0 : List Addr} {H0 : Hp} {h0 : Hh} {ds : List D} {vs : List V} {r0 : Ev} {s0 : Sg} {a : Addr}
    (w : Wd K m0 h0 H0) (st : RSt K m0 H0 r0 s0) (hq : SqT K H0 a vs) (q : RDs K m0 H0 ds vs) (e : OutS K Wx m0 H0 Z (forS t body ds r0 h0)) :
    ∃ Wv : Nat → Nat → Sg → Hp → Prop, (∃ m, Wv 0 m s0 H0) ∧ ∀ i m s H, Wv i m s H →
      ((Itt K a).stop i H ∧ Z.nx s H) ∨ ((Itt K a).go i H ∧ ∃ P : Sg → Hp → Prop, (∀ s' H', P s' H' → ∃ m', m' < m ∧ Wv (i + 1) m' s' H') ∧ ∀ x H', (Itt K a).yld i H x H' → TDG K t x s H' fun s2 H2 => TDS K Wx body { Z with nx := P, ct := P, bk := Z.nx } s2 H2) := by
  refine for_tup (K := K) (a := a) (xs := vs) (fun i s H => ∃ m r h, Gr K m0 H0 m H ∧ Wd K m h H ∧ RSt K m H r s ∧ OutS K Wx m H Z (forS t body (ds.drop i) r h))
    ⟨m0, r0, h0, .refl, w, st, e⟩ (fun i s H _ ⟨m, r, h, g, _⟩ => g.tup _ _ hq) ?_ ?_
  · rintro i x s H hi ⟨m, r, h, g, w1, st1, e1⟩
    obtain ⟨d, hd, rd⟩ := q.getV hi
    have ed : ds.drop i = d :: ds.drop (i + 1) := by
      obtain ⟨hl, z⟩ := List.getElem?_eq_some_iff.mp hd
      rw [← z]; exact List.drop_eq_getElem_cons hl
    rw [ed] at e1
    exact turnS w1 st1 (rd.mono g) e1 fun m2 H2 r2 h2 s2 g2 w2 st2 e2 => ⟨m2, r2, h2, g.trans g2, w2, st2, e2⟩
  · rintro s H ⟨m, r, h, g, w1, st1, e1⟩
    rw [← q.length, List.drop_length] at e1
    exact e1 m H .refl w1 s st1
theorem for_rngD {t : Tg} {body : Ev → Hh → Rs Fl} {Z : Ends} {m0 : List Addr} {H0 : Hp} {h0 : Hh} {lo hi : Int} {r0 : Ev} {s0 : Sg}
    (w : Wd K m0 h0 H0) (st : RSt K m0 H0 r0 s0) (e : OutS K Wx m0 H0 Z (forS t body (rngD lo hi) r0 h0)) :
    ∃ Wv : Nat → Nat → Sg → Hp → Prop, (∃ m, Wv 0 m s0 H0) ∧ ∀ i m s H, Wv i m s H →
      ((Itr lo (hi - lo).toNat).stop i H ∧ Z.nx s H) ∨ ((Itr lo (hi - lo).toNat).go i H ∧ ∃ P : Sg → Hp → Prop, (∀ s' H', P s' H' → ∃ m', m' < m ∧ Wv (i + 1) m' s' H') ∧ ∀ x H', (Itr lo (hi - lo).toNat).yld i H x H' → TDG K t x s H' fun s2 H2 => TDS K Wx body { Z with nx := P, ct := P, bk := Z.nx } s2 H2) := by
  refine for_range (lo := lo) (n := (hi - lo).toNat) (fun i s H => ∃ m r h, Gr K m0 H0 m H ∧ Wd K m h H ∧ RSt K m H r s ∧ OutS K Wx m H Z (forS t body ((rngD lo hi).drop i) r h))
    ⟨m0, r0, h0, .refl, w, st, e⟩ ?_ ?_
  · rintro i s H hi' ⟨m, r, h, g, w1, st1, e1⟩
    have hd : (rngD lo hi)[i]? = some (D.int (lo + i)) := by
      unfold rngD
      rw [List.getElem?_map, List.getElem?_range hi']
      rfl
    have ed : (rngD lo hi).drop i = D.int (lo + i) :: (rngD lo hi).drop (i + 1) := by
      obtain ⟨hl, z⟩ := List.getElem?_eq_some_iff.mp hd
      rw [← z]; exact List.drop_eq_getElem_cons hl
    rw [ed] at e1
    exact turnS w1 st1 (.int _) e1 fun m2 H2 r2 h2 s2 g2 w2 st2 e2 => ⟨m2, r2, h2, g.trans g2, w2, st2, e2⟩
  · rintro s H ⟨m, r, h, g, w1, st1, e1⟩
    have hl : (rngD lo hi).length = (hi - lo).toNat := by unfold rngD; simp
    rw [← hl, List.drop_length] at e1
    exact e1 m H .refl w1 s st1
theorem for_lstD {t : Tg} {body : Ev → Hh → Rs Fl} {Z : Ends} {m0 : List Addr} {H0 : Hp} {h0 : Hh} {n : Nat} {r0 : Ev} {s0 : Sg} {a : Addr}
    (w : Wd K m0 h0 H0) (st : RSt K m0 H0 r0 s0) (ha : m0[n]? = some a) (e : OutS K Wx m0 H0 Z (forI t body n W 0 r0 h0)) :
    ∃ Wv : Nat → Nat → Sg → Hp → Prop, (∃ m, Wv 0 m s0 H0) ∧ ∀ i m s H, Wv i m s H →
      ((Itl K a).stop i H ∧ Z.nx s H) ∨ ((Itl K a).go i H ∧ ∃ P : Sg → Hp → Prop, (∀ s' H', P s' H' → ∃ m', m' < m ∧ Wv (i + 1) m' s' H') ∧ ∀ x H', (Itl K a).yld i H x H' → TDG K t x s H' fun s2 H2 => TDS K Wx body { Z with nx := P, ct := P, bk := Z.nx } s2 H2) := by
  refine ⟨fun i k s H => ∃ m r h, Gr K m0 H0 m H ∧ Wd K m h H ∧ RSt K m H r s ∧ OutS K Wx m H Z (forI t body n k i r h), ⟨W, m0, r0, h0, .refl, w, st, e⟩, ?_⟩
  rintro i k s H ⟨m, r, h, g, w1, st1, e1⟩
  cases k with
  | zero => exact e1.elim
  | succ k =>
    simp only [forI] at e1
    split at e1
    · exact e1.elim
    · rename_i l el
      obtain ⟨a', vs, ha', hq, q⟩ := w1.lst el
      have := g.pre _ _ ha
      rw [this] at ha'; cases ha'
      split at e1
      · rename_i en
        refine .inl ⟨⟨vs, hq, ?_⟩, e1 m H .refl w1 s st1⟩
        rw [← q.length]; exact List.getElem?_eq_none_iff.mp en
      · rename_i d ed
        obtain ⟨v, hv, rd⟩ := q.get ed
        refine .inr ⟨⟨vs, v, hq, hv⟩, fun s' H' => ∃ m r h, Gr K m0 H0 m H' ∧ Wd K m h H' ∧ RSt K m H' r s' ∧ OutS K Wx m H' Z (forI t body n k (i + 1) r h), fun s' H' p => ⟨k, Nat.lt_succ_self _, p⟩, fun x H' y => ?_⟩
        obtain ⟨rfl, y⟩ := y
        have hx := y vs hq
        rw [hv] at hx; cases hx
        split at e1
        · exact e1.elim
        · rename_i r2 er
          exact ⟨m, h, r, d, r2, w1, st1, rd, er, fun s2 st2 => ⟨m, r2, h, w1, st2, OutS.body (next := forI t body n k (i + 1)) e1 fun m' H' h' r s g' w' st' e' => ⟨m', r, h', g.trans g', w', st', e'⟩⟩⟩
theorem whileD {f : Ev → Hh → Rs D} {body : Ev → Hh → Rs Fl} {Z : Ends} {m0 : List Addr} {H0 : Hp} {h0 : Hh} {r0 : Ev} {s0 : Sg}
    (w : Wd K m0 h0 H0) (st : RSt K m0 H0 r0 s0) (e : OutS K Wx m0 H0 Z (whileF f body W r0 h0)) : tWhile (TDT K f) (TDS K Wx body) Z s0 H0 := by
  refine ⟨fun k s H => ∃ m r h, Gr K m0 H0 m H ∧ Wd K m h H ∧ RSt K m H r s ∧ OutS K Wx m H Z (whileF f body k r h), ⟨W, m0, r0, h0, .refl, w, st, e⟩, ?_⟩
  rintro k s H ⟨m, r, h, g, w1, st1, e1⟩
  cases k with
  | zero => exact e1.elim
  | succ k =>
    simp only [whileF] at e1
    obtain ⟨x, h1, ex, e1⟩ := e1.nx
    split at e1
    · exact e1.elim
    · rename_i et
      exact ⟨m, r, h, x, h1, false, w1, st1, ex, et, fun m' H' g' w' => iteF (e1 m' H' g' w' s (st1.mono g'))⟩
    · rename_i et
      exact ⟨m, r, h, x, h1, true, w1, st1, ex, et, fun m' H' g' w' => iteT ⟨fun s' H' => ∃ m r h, Gr K m0 H0 m H' ∧ Wd K m h H' ∧ RSt K m H' r s' ∧ OutS K Wx m H' Z (whileF f body k r h), fun s' H' p => ⟨k, Nat.lt_succ_self _, p⟩,
        m', r, h1, w', st1.mono g', OutS.body (next := whileF f body k) (e1.mono g') fun m3 H3 h3 r s g3 w3 st' e' => ⟨m3, r, h3, (g.trans g').trans g3, w3, st', e'⟩⟩⟩
end
end Ng
end
section
set_option Elab.async false
set_option linter.all false
set_option maxRecDepth 100000
set_option maxHeartbeats 4000000
set_option autoImplicit false
namespace Ng
open PySem PySem.Spec PyProof.Rows L2
section
variable {X : Cx} {ca : Nat → Addr} {Wx : Ws}
end
section
variable {X : Cx} {N : List Str} {sc : Scope} {G : Gs} {ca : Nat → Addr} {cl : Cl} {Wx : Ws} {rz : Bool}
/-- an expression, then what is done with its value -/
theorem TDS.one {K : PySem.W.Frag} {fa : Ev → Hh → Rs D} {f : Ev → Hh → Rs Fl} {k : Ev → D → Hh → Rs Fl} {s : Sg} {H : Hp} {Z : Ends} {R : VK} (hf : ∀ r h, f r h = (fa r h).nx.bind (k r)) (q : TDS K Wx f Z s H)
    (c : ∀ (m2 : List Addr) (r : Ev) (h2 : Hh) (H2 : Hp) (dx : D) (x : V), Wd K m2 h2 H2 → RSt K m2 H2 r s → RD K m2 H2 dx x → OutS K Wx m2 H2 Z (k r dx h2) → R x H2) : TDE K fa s H R := by
  obtain ⟨m, r, h, w, st, o⟩ := q
  rw [hf] at o
  obtain ⟨dx, h1, e1, o⟩ := o.nx
  exact ⟨m, r, h, dx, h1, w, st, e1, fun m1 x H1 g1 w1 rx => c m1 r h1 H1 dx x w1 (st.mono g1) rx (o.mono g1)⟩
end
section
variable {X : Cx} {N : List Str} {sc : Scope} {G : Gs} {ca : Nat → Addr} {cl : Cl} {e : Addr} {oe : Obj} {c : Nat}
def hslot (N : List Str) (e : Addr) (n : Option Str) (σ : Sg) : Prop := ∀ x, n = some x → ∃ j : Nat, N[j]? = some x ∧ σ[j]? = some (some (.ref e))
end
end Ng
end
section
set_option Elab.async false
set_option linter.all false
set_option maxRecDepth 100000
set_option maxHeartbeats 4000000
set_option autoImplicit false
namespace Ng
open PySem PySem.Spec PyProof.Rows L2
theorem noComp_sw {env : Env} {v : PySem.Expr} {t : Option PySem.Expr} {l : Nat} (h : noComp v = true) : swapsWith v t l env = pure false := by
  cases v <;> first | rfl | (cases h; done)
theorem noComp_sole {env : Env} {v tg : PySem.Expr} {l : Nat} (h : noComp v = true) : swapsWithSole [tg] v l env = pure false := noComp_sw (t := some tg) h
section
variable {X : Cx} {N : List Str} {sc : Scope} {G : Gs} {ca : Nat → Addr} {cl : Cl} {e : Addr} {oe : Obj} {c : Nat}
theorem hslot.set {n : Option Str} {σ : Sg} {i : Nat} {x : Str} {v : Option V} (h : hslot N e n σ) (hi : N[i]? = some x) (hx : (n == some x) = false) : hslot N e n (σ.set i v) := fun y hy => by
  obtain ⟨j, h1, h2⟩ := h y hy
  refine ⟨j, h1, ?_⟩
  have : i ≠ j := fun z => by
    subst z
    rw [hi] at h1
    cases h1
    rw [hy] at hx
    simp at hx
  rw [List.getElem?_set_ne this]
  exact h2
def HS.ix : HS → Nat
  | .bl i _ => i
  | .cst i _ => i
end
section
variable {X : Cx} {pins pins' : List (Addr × Obj)} {E : Value → Shared → Prop} {σ : Sg} {H : Hp} {s : Shared}
end
section
variable {X : Cx} {N : List Str} {sc : Scope} {G : Gs} {ca : Nat → Addr} {cl : Cl} {Wx : Ws} {rz : Bool}
theorem RSt.clr {K : PySem.W.Frag} {m : List Addr} {H : Hp} {r : Ev} {σ : Sg} (st : RSt K m H r σ) (j : Nat) (v : Option V) : RSt K m H (r.set j none) (σ.set j v) := by
  refine ⟨by simp [st.1], fun i d e => ?_⟩
  by_cases hij : j = i
  · subst hij
    by_cases hl : j < r.length
    · rw [List.getElem?_set_self hl] at e; cases e
    · rw [List.getElem?_eq_none (by simpa using hl)] at e; cases e
  · rw [List.getElem?_set_ne hij] at e ⊢
    exact st.2 i d e
end
end Ng
end
section
set_option Elab.async false
set_option linter.all false
set_option maxRecDepth 100000
set_option maxHeartbeats 4000000
set_option autoImplicit false
namespace Ng
open PySem PySem.Spec PyProof.Rows L2
section
variable {X : Cx}
def gSt (K : PySem.W.Frag) : TSet := fun o i v H Q => ∃ m h x y z h', Wd K m h H ∧ RD K m H x o ∧ RD K m H y i ∧ RD K m H z v ∧ stxD x y z h = .ok () h' ∧ ∀ m' H', Gr K m H m' H' → Wd K m' h' H' → Q H'
theorem setD (hr : ∃ k, Room k X.A) : PSet X (gSt X.K) := by
  intro pins s σ H o i v ov iv u Q I ro ri rv ⟨m, h, x, y, z, h', w, r1, r2, r3, e, c⟩
  cases r1 <;> first | (cases e; done) | skip
  rename_i n a ha
  simp only [stxD] at e
  split at e
  · rename_i l el
    unfold stxL at e
    cases r2 <;> first | (cases e; done) | skip
    rename_i k
    simp only at e
    split at e
    · rename_i j ej
      cases e
      obtain ⟨vs, hv, rvs⟩ : ∃ vs, H a = some (.lst vs) ∧ RDs X.K m H l vs := w.ob n _ a el ha
      obtain ⟨_, w4, g4⟩ := w.lstSet el ha (rvs.set r3 j)
      exact set_list pins s σ H _ _ v ov iv u Q I ro ri rv ⟨a, vs, k, j, rfl, rfl, hv, by rw [← rvs.length]; exact ej, c m _ g4 w4⟩
    · cases e
  · rename_i l el
    obtain ⟨us, k, q1, rfl, q3, w3, g3⟩ := dput_wd w ha r2 r3 e
    cases ro
    obtain ⟨kk, hr⟩ := hr
    have hun := hr.units
    exact d_setItem (by omega) I (DPut.k q1 (by have : (1000 : Nat) ≤ sizeLine := by decide
                                                omega)) ri rv fun s' I' => ⟨_, I', c m _ g3 w3⟩
  · rename_i l el
    unfold dputT at e
    cases r2 <;> first | (cases e; done) | skip
    rename_i b ds vs hq q
    simp only at e
    split at e
    · rename_i k ek
      split at e
      · rename_i hl
        cases e
        obtain ⟨kk, hr⟩ := hr
        have hun := hr.units
        cases ro; cases ri
        have ev := ints_rel q ek
        subst ev
        exact dtt_put (by omega) I w el ha hl hq r3 rv fun s' H' I' g' w' => ⟨_, I', c m _ g' w'⟩
      · cases e
    · cases e
  · cases e
end
def SS (N : List Str) (sc : Scope) (G : Gs) (c : S) (e : PySem.Stmt) : Prop := ∀ {X : Cx} {ca : Nat → Addr} {cl : Cl} {W : Nat} {Wx : Ws} {rz : Bool}, XOk X N sc → GOk X G ca cl → (∀ x, X.fn x = true) → XX X ca Wx rz → (rz = true ∨ noRs c = true) → PS X e (TDS X.K Wx (xs G cl W c))
def SSs (N : List Str) (sc : Scope) (G : Gs) (c : Ss) (e : List PySem.Stmt) : Prop := ∀ {X : Cx} {ca : Nat → Addr} {cl : Cl} {W : Nat} {Wx : Ws} {rz : Bool}, XOk X N sc → GOk X G ca cl → (∀ x, X.fn x = true) → XX X ca Wx rz → (rz = true ∨ noRss c = true) → PSs X e (TDS X.K Wx (xss G cl W c))
section
variable {N : List Str} {sc : Scope} {G : Gs}
theorem dS_asgN {i : Nat} {a : E} {x : Str} {px pos : Pos} {v : PySem.Expr} (h1 : N[i]? = some x) (h2 : locB sc x = true) (h3 : noComp v = true) (h_a : SE N sc G a v) : SS N sc G (.asg (.nm i) a) (.Assign [.Name x px] v pos) := fun {X ca cl W Wx rz} xo go hfn xx hz => by
  refine (ps_set (i := i) xo.nd (by rw [xo.n]; exact h1) (by rw [xo.s]; exact locB_ok h2) (h_a xo go).1 (noComp_sw h3) (.inl (hfn x))).wk fun Z s H q => ?_
  refine TDS.one (fun r h => by rw [xs]) q fun m2 r h2 H2 dx y w2 st2 rx o => ?_
  exact o m2 H2 .refl w2 _ (st2.set i rx)
theorem dS_asgT {l : List Nat} {a : E} {es : List PySem.Expr} {k : Nat} {px pos : Pos} {v : PySem.Expr} (h1 : chkNs N sc l es = true) (h3 : noComp v = true) (hw : ∀ env, swappedStores [.Tuple es k px] v env = pure none) (h_a : SE N sc G a v) : SS N sc G (.asg (.tp l) a) (.Assign [.Tuple es k px] v pos) := fun {X ca cl W Wx rz} xo go hfn xx hz => by
  refine (ps_asg (h_a xo go).1 (pgT xo hfn (t := .tp l) (tg := .Tuple es k px) h1) (noComp_sole h3) (hw X.env) rfl).wk fun Z s H q => ?_
  refine TDS.one (fun r h => by rw [xs]) q fun m2 r h2 H2 dx y w2 st2 rx o => ?_
  split at o
  · rename_i r1 er
    exact ⟨m2, _, r, dx, r1, w2, st2, rx, er, fun s' st' => o m2 H2 .refl w2 s' st'⟩
  · exact o.elim
theorem dS_ex {a : E} {v : PySem.Expr} {pos : Pos} (h3 : noComp v = true) (h_a : SE N sc G a v) : SS N sc G (.ex a) (.Expr v pos) := fun {X ca cl W Wx rz} xo go hfn xx hz => by
  refine (ps_expr (h_a xo go).1 (noComp_sw h3)).wk fun Z s H q => ?_
  refine TDS.one (fun r h => by rw [xs]) q fun m2 r h2 H2 dx y w2 st2 rx o => ?_
  exact o m2 H2 .refl w2 _ st2
theorem dS_ret {a : E} {v : PySem.Expr} {pos : Pos} (h_a : SE N sc G a v) : SS N sc G (.ret a) (.Return (some v) pos) := fun {X ca cl W Wx rz} xo go hfn xx hz => by
  refine (ps_ret (h_a xo go).1).wk fun Z s H q => ?_
  refine TDS.one (fun r h => by rw [xs]) q fun m2 r h2 H2 dx y w2 st2 rx o => ?_
  exact o m2 H2 .refl w2 _ rx
theorem dS_iff {a : E} {b1 b2 : Ss} {t : PySem.Expr} {x y : List PySem.Stmt} {pos : Pos} (h_a : SE N sc G a t) (h_b1 : SSs N sc G b1 x) (h_b2 : SSs N sc G b2 y) : SS N sc G (.iff a b1 b2) (.If t x y pos) := fun {X ca cl W Wx rz} xo go hfn xx hz => by

  have hz' : (rz = true ∨ noRss b1 = true) ∧ (rz = true ∨ noRss b2 = true) := by
    rcases hz with z | z
    · exact ⟨.inl z, .inl z⟩
    · have z' : (noRss b1 && noRss b2) = true := z
      rw [Bool.and_eq_true] at z'
      exact ⟨.inr z'.1, .inr z'.2⟩
  refine (ps_if ((h_a xo go).2) (h_b1 (W := W) xo go hfn xx hz'.1) (h_b2 (W := W) xo go hfn xx hz'.2)).wk fun Z s H ⟨m, r, hh, w, st, o⟩ => ?_
  rw [xs] at o
  obtain ⟨dx, h1, e0, o⟩ := o.nx
  split at o
  · rename_i et
    exact ⟨m, r, hh, dx, h1, true, w, st, e0, et, fun m' H' g w' => iteT ⟨m', r, h1, w', st.mono g, o.mono g⟩⟩
  · rename_i et
    exact ⟨m, r, hh, dx, h1, false, w, st, e0, et, fun m' H' g w' => iteF ⟨m', r, h1, w', st.mono g, o.mono g⟩⟩
  · exact o.elim
theorem dS_for1 {t : Tg} {a : E} {b : Ss} {tg y : PySem.Expr} {x : List PySem.Stmt} {p pos' pos : Pos} (h1 : chkT N sc t tg = true) (h6 : glB sc "range" = true) (h7 : noStar y = true) (h_a : SE N sc G a y) (h_b : SSs N sc G b x) : SS N sc G (.forr t (.r1 a) b) (.For tg (.Call (.Name "range" p) [y] [] pos') x [] pos) := fun {X ca cl W Wx rz} xo go hfn xx hz => by
  have hs : ∀ z, foldedSetIterable (.Call (.Name "range" p) [y] [] pos') X.env z = pure z := fun z => rfl
  have hA : PA X [y] (tCons (TDE X.K (ev G cl a)) tNil) := pa_cons (h_a xo go).1 pa_nil (star_one [] h7)

  refine (ps_for xo.po xo.calm (pi_range1 (glB_ok xo h6) xo.rng hA (star_one [] h7)) (pgT xo hfn h1) (h_b (W := W) xo go hfn xx hz) hs).wk fun Z s H q => ?_
  refine TDS.one (fun r h => by rw [xs]) q fun m2 r h2 H2 dx y w2 st2 rx o => ?_
  cases rx <;> first | exact o.elim | skip
  rename_i j
  simp only at o
  split at o
  · rename_i ho
    refine ⟨j, rfl, ho.1, ho.2, ?_⟩
    have := for_rngD (lo := 0) (hi := j) w2 st2 o
    simpa using this
  · exact o.elim
theorem dS_forS {t : Tg} {a : E} {b : Ss} {tg it : PySem.Expr} {x : List PySem.Stmt} {pos : Pos} (h1 : chkT N sc t tg = true) (hs' : ∀ env z, foldedSetIterable it env z = pure z) (h_a : SE N sc G a it) (h_b : SSs N sc G b x) : SS N sc G (.forr t (.sq a) b) (.For tg it x [] pos) := fun {X ca cl W Wx rz} xo go hfn xx hz => by
  have hs := hs' X.env
  have hp := (h_a xo go).1

  have p1 := ps_for xo.po xo.calm (pi_list hp) (pgT xo hfn h1) (h_b (W := W) xo go hfn xx hz) hs (pos := pos)
  have p2 := ps_for xo.po xo.calm (pi_tup hp) (pgT xo hfn h1) (h_b (W := W) xo go hfn xx hz) hs (pos := pos)
  intro pins s σ H Z I ⟨m, r, hh, w, st, o⟩
  rw [xs] at o
  obtain ⟨dx, h5, e0, o⟩ := o.nx
  have mk : ∀ (R : VK), (∀ (m2 : List Addr) (H2 : Hp) (y : V), Gr X.K m H m2 H2 → Wd X.K m2 h5 H2 → RD X.K m2 H2 dx y → R y H2) → TDE X.K (ev G cl a) σ H R := fun R k => ⟨m, r, hh, dx, h5, w, st, e0, fun m2 y H2 g2 w2 ry => k m2 H2 y g2 w2 ry⟩
  cases dx <;> first | exact o.elim | skip
  · refine p2 pins s σ H Z I (mk _ fun m2 H2 y g2 w2 ry => ?_)
    cases ry with
    | tup hq q' => exact ⟨_, rfl, ⟨_, hq⟩, for_tupD w2 (st.mono g2) hq q' (OutS.mono g2 o)⟩
  · rename_i n
    refine p1 pins s σ H Z I (mk _ fun m2 H2 y g2 w2 ry => ?_)
    cases ry with
    | ref ha =>
      have hl : ∃ l, lstAt h5 n = some l := by
        cases W with
        | zero => exact o.elim
        | succ k =>
          simp only [forD, forI] at o
          split at o
          · exact o.elim
          · rename_i l el
            exact ⟨l, el⟩
      obtain ⟨l, hl⟩ := hl
      obtain ⟨a', vs, ha', hq, _⟩ := w2.lst hl
      rw [ha] at ha'; cases ha'
      exact ⟨_, rfl, ⟨_, hq⟩, for_lstD (W := W) w2 (st.mono g2) ha (OutS.mono g2 o)⟩
theorem dS_whl {a : E} {b : Ss} {t : PySem.Expr} {x : List PySem.Stmt} {pos : Pos} (h_a : SE N sc G a t) (h_b : SSs N sc G b x) : SS N sc G (.whl a b) (.While t x [] pos) := fun {X ca cl W Wx rz} xo go hfn xx hz => by
  refine (ps_while xo.po (h_a xo go).2 (h_b (W := W) xo go hfn xx hz)).wk fun Z s H ⟨m, r, hh, w, st, o⟩ => ?_
  rw [xs] at o
  exact whileD w st o
def PlainSt (o i : PySem.Expr) (pos : Pos) : Prop := ∀ (env : Env) (v : Value), assign (.Subscript o i pos) env v = (do
      let ov ← holding [v] (eval o env)
      let iv ← holding [v, ov] (eval i env)
      standAt pos
      holding [v, ov, iv] (setItem ov iv v)
      release [v, ov, iv] [])
theorem dS_stx {o i a : E} {x y v : PySem.Expr} {px pos : Pos} (h1 : noComp v = true) (hy : PlainSt x y px) (h_a : SE N sc G a v) (h_o : SE N sc G o x) (h_i : SE N sc G i y) : SS N sc G (.stx o i a) (.Assign [.Subscript x y px] v pos) := fun {X ca cl W Wx rz} xo go hfn xx hz => by

  refine (ps_asg ((h_a xo go).1) (pg_sub ((h_o xo go).1) ((h_i xo go).1) (setD xo.room) (fun v => hy X.env v)) (noComp_sole h1) rfl rfl).wk fun Z s H q => ?_
  refine TDS.one (fun r h => by rw [xs]) q fun m2 r h2 H2 dz z w2 st2 rdz o => ?_
  obtain ⟨dx, h6, e6, o⟩ := o.nx
  obtain ⟨dy, h7, e7, o⟩ := o.nx
  obtain ⟨_, h8, e8, o⟩ := o.nx
  exact ⟨m2, r, h2, dx, h6, w2, st2, e6, fun m3 x' H3 g3 w3 rx => ⟨m3, r, h6, dy, h7, w3, st2.mono g3, e7, fun m4 y' H4 g4 w4 ry => ⟨m4, h7, dx, dy, dz, h8, w4, rx.mono g4, ry, rdz.mono (g3.trans g4), e8, fun m5 H5 g5 w5 => o m5 H5 ((g3.trans g4).trans g5) w5 s (st2.mono ((g3.trans g4).trans g5))⟩⟩⟩
theorem ds_nil : SSs N sc G .nil [] := fun {X ca cl W Wx rz} xo go hfn xx hz => (pss_nil).wk fun Z s H ⟨m, r, hh, w, st, o⟩ => by
    rw [xss] at o
    exact o m H .refl w s st
theorem ds_cons {a : S} {l : Ss} {x : PySem.Stmt} {xs' : List PySem.Stmt} (h_a : SS N sc G a x) (h_l : SSs N sc G l xs') : SSs N sc G (.cons a l) (x :: xs') := fun {X ca cl W Wx rz} xo go hfn xx hz => by

  have hz' : (rz = true ∨ noRs a = true) ∧ (rz = true ∨ noRss l = true) := by
    rcases hz with z | z
    · exact ⟨.inl z, .inl z⟩
    · have z' : (noRs a && noRss l) = true := z
      rw [Bool.and_eq_true] at z'
      exact ⟨.inr z'.1, .inr z'.2⟩
  refine (pss_cons (h_a (W := W) xo go hfn xx hz'.1) (h_l (W := W) xo go hfn xx hz'.2)).wk fun Z s H ⟨m, r, hh, w, st, o⟩ => ?_
  rw [xss] at o
  refine ⟨m, r, hh, w, st, ?_⟩
  cases ho : xs G cl W a r hh with
  | bad => rw [ho] at o; exact o
  | exc c rr h1 => rw [ho] at o; exact o
  | ok f h1 =>
    rw [ho] at o
    intro m1 H1 g1 w1
    have o' := OutS.mono g1 o
    cases f with
    | nx r2 => exact fun s' st' => ⟨m1, r2, h1, w1, st', o'⟩
    | rt d => exact o' m1 H1 .refl w1
    | bk r2 => exact o' m1 H1 .refl w1
    | ct r2 => exact o' m1 H1 .refl w1

end
end Ng
end
section
set_option Elab.async false
set_option linter.all false
set_option maxRecDepth 100000
set_option maxHeartbeats 4000000
set_option autoImplicit false
namespace Ng
open PySem PySem.Spec PyProof.Rows L2
structure Fc where
  np : Nat
  ns : Nat
  body : Ss
def endD : Fl → Hh → Rs D
  | .rt d, h => .ok d h
  | .nx _, h => .ok .non h
  | _, _ => .bad
noncomputable def callD (G : Gs) (T : Nat → Option Fc) (W : Nat) : Nat → Cl
  | 0, _, _, _ => .bad
  | n + 1, f, ds, h => match T f with
    | none => .bad
    | some c => if ds.length = c.np then (xss G (callD G T W n) W c.body (ds.map some ++ List.replicate (c.ns - c.np) none) h).bind endD else .bad
structure FcOk (K : PySem.W.Frag) (mg : Str → Option Value) (G : Gs) (x : Str) (c : Fc) : Prop where
  ex : ∃ st fa fd N ps qual, Fun K x qual st fa fd ∧ FnScope N ps (defScope st) ∧ ps.length = c.np ∧ N.length = c.ns ∧ Binds K fd ps [] ∧ mg x = some (.ref fa) ∧ SSs N (defScope st) G c.body (defBody st)
def AllP {α : Type} (P : Nat → α → Prop) : Nat → List α → Prop
  | _, [] => True
  | i, a :: l => P i a ∧ AllP P (i + 1) l
theorem AllP.get {α : Type} {P : Nat → α → Prop} : ∀ {l : List α} {i : Nat}, AllP P i l → ∀ {f : Nat} {x : α}, l[f]? = some x → P (i + f) x
  | _ :: _, _, h, 0, _, e => by cases e; exact h.1
  | _ :: l, i, h, f + 1, x, e => by
    have q := AllP.get h.2 (f := f) (x := x) (by simpa using e)
    rwa [show i + 1 + f = i + (f + 1) by omega] at q
theorem AllP.get0 {α : Type} {P : Nat → α → Prop} {l : List α} (h : AllP P 0 l) {f : Nat} {x : α} (e : l[f]? = some x) : P f x := by
  have q := AllP.get h e
  rwa [Nat.zero_add] at q
theorem len1 {us : List Value} (h : us.length = 1) : ∃ a, us = [a] := List.length_eq_one_iff.mp h
theorem len2 {us : List Value} (h : us.length = 2) : ∃ a b, us = [a, b] := by
  match us, h with
  | [a, b], _ => exact ⟨a, b, rfl⟩
theorem len3 {us : List Value} (h : us.length = 3) : ∃ a b c, us = [a, b, c] := by
  match us, h with
  | [a, b, c], _ => exact ⟨a, b, c, rfl⟩
structure PrOk (K : PySem.W.Frag) (mg : Str → Option Value) (G : Gs) (ca : Nat → Addr) (T : Nat → Option Fc) : Prop where
  fn : ∀ (f : Nat) (x : Str), G.fns[f]? = some x → ∃ c, T f = some c ∧ FcOk K mg G x c
  cst : ∀ (g : Nat) (x : Str) (d : D), G.csts[g]? = some (x, d) → ∃ v u, mg x = some u ∧ RelV v u ∧ ∀ m H, RD K m H d v
  blt : ∀ f : Blt, mg f.nm = none
  ty : ∀ t : Ty, mg (Str.ofString t.nm) = none
  rng : mg "range" = none
  exc : ∀ (c : Nat) (x : Str), G.excs[c]? = some x → mg x = some (.ref (ca c)) ∧ ExcF K (ca c)
  sub : ∀ p ∈ G.sub, PySem.W.exmOne K (.ref (ca p.1)) (.ref (ca p.2)) = some true ∧ PySem.W.kitOne K (.ref (ca p.1)) (.ref (ca p.2)) = some true ∧ ExcF K (ca p.1)
  verr : mg "ValueError" = none
theorem RSt.start {K : PySem.W.Frag} {m : List Addr} {H : Hp} {ds : List D} {vs : List V} (r : RDs K m H ds vs) (k : Nat) : RSt K m H (ds.map some ++ List.replicate k none) (vs.map some ++ List.replicate k none) := by
  refine ⟨by simp [r.length], fun i d e => ?_⟩
  by_cases hi : i < ds.length
  · rw [List.getElem?_append_left (by simpa using hi), List.getElem?_map] at e
    cases z : ds[i]? with
    | none => rw [z] at e; cases e
    | some d' =>
      rw [z] at e
      have e' : d' = d := by
        have e2 : some (some d') = some (some d) := e
        injection e2 with e2; injection e2
      subst e'
      obtain ⟨v, hv, rv⟩ := r.get z
      exact ⟨v, by rw [List.getElem?_append_left (by rw [List.length_map, ← r.length]; exact hi), List.getElem?_map, hv]; rfl, rv⟩
  · rw [List.getElem?_append_right (by simpa using hi), List.getElem?_replicate] at e
    split at e <;> cases e
section
variable {P : Program} {w : World} {K : PySem.W.Frag} {mg : Str → Option Value} {base : Heap} {G : Gs} {ca : Nat → Addr} {T : Nat → Option Fc} {W : Nat}
theorem _root_.L2.Fun.okX {x qual : Str} {st : PySem.Stmt} {f : Addr} {fd : FuncData} {N ps : List Str} {k : Nat} {sp : Sp} (F : Fun K x qual st f fd) (S : FnScope N ps (defScope st)) (len : ∀ vs H Q E, sp vs H Q E → vs.length = ps.length)
    (hbody : ∀ (cdv : Value) (A : Around) (outer : List Env) (s : Shared) (H : Hp) (vs : List V) (Q : VK) (E : XK), Room k (A.deeper (envOfC qual (defScope st) s.heap.objs.size f cdv)) → sp vs H Q E →
      ∃ t, PSs (cxOf (CX1 P w) P w K mg base N qual (defScope st) f cdv A outer s H E) (defBody st) t ∧ t { nx := fun _ H' => Q .non H', rt := Q } (start N vs) H) : FnOk P w K mg base (CX1 P w) (k + 1) f fd ps sp := by
  obtain ⟨oc, od, kV, doc, pm, an, cdv, ct, osl, rfl, lk, hcd⟩ := F.ex
  exact fn_of lk hcd S len fun A outer s H vs Q E hr hsp => hbody cdv A outer s H vs Q E hr hsp
abbrev AllFn (P : Program) (w : World) (K : PySem.W.Frag) (mg : Str → Option Value) (base : Heap) (G : Gs) (ca : Nat → Addr) (T : Nat → Option Fc) (W n : Nat) : Prop := ∀ (f : Nat) (x : Str), G.fns[f]? = some x → ∃ fa fd ps, FnOk P w K mg base (CX1 P w) n fa fd ps (spD K ca (callD G T W n f) ps.length) ∧ mg x = some (.ref fa) ∧ PySem.W.keepIn K (.ref fa) = true ∧ Binds K fd ps [] ∧ ∀ ds h, callD G T W n f ds h ≠ .bad → ds.length = ps.length
theorem fn_step (pr : PrOk K mg G ca T) {n f : Nat} (ih : AllFn P w K mg base G ca T W n) {x qual : Str} {c : Fc} {st : PySem.Stmt} {fa : Addr} {fd : FuncData} {N ps : List Str} (hc : T f = some c) (F : Fun K x qual st fa fd) (S : FnScope N ps (defScope st)) (h1 : ps.length = c.np) (h2 : N.length = c.ns)
    (hk : SSs N (defScope st) G c.body (defBody st)) : FnOk P w K mg base (CX1 P w) (n + 1) fa fd ps (spD K ca (callD G T W (n + 1) f) ps.length) := by
  refine F.okX S (fun vs H Q E h => h.1) (fun cdv A outer s H vs Q E hr h => ?_)
  obtain ⟨hl, m, h, ds, wd, rd, o⟩ := h
  simp only [callD, hc] at o
  have hlen : ds.length = c.np := by rw [rd.length, hl, h1]
  rw [if_pos hlen] at o
  let X : Cx := cxOf (CX1 P w) P w K mg base N qual (defScope st) fa cdv A outer s H E
  have xo : XOk X N (defScope st) := ⟨rfl, rfl, rfl, S.nd, ⟨n, hr⟩, pr.rng, PassesOwn.leaving⟩
  have go : GOk X G ca (callD G T W n) := ⟨fun f' x' hf' => by
    obtain ⟨fa', fd', ps', F', hm', hk', hb', hl'⟩ := ih f' x' hf'
    exact ⟨fa', fd', ps', n, F', hr, hm', hk', hb', hl'⟩, pr.cst, pr.blt, pr.ty, pr.exc, pr.sub, pr.verr⟩
  refine ⟨_, hk (W := W) xo go (fun _ => rfl) fnXX (.inl rfl), m, ds.map some ++ List.replicate (c.ns - c.np) none, h, wd, ?_, ?_⟩
  · show RSt K m H _ (vs.map some ++ List.replicate (N.length - vs.length) none)
    rw [show N.length - vs.length = c.ns - c.np by omega]
    exact RSt.start rd _
  · cases hx : xss G (callD G T W n) W c.body (ds.map some ++ List.replicate (c.ns - c.np) none) h with
    | bad => rw [hx] at o; exact o
    | exc c' r' h' =>
      rw [hx] at o
      exact fun m' H' s' g w' _ v => o m' H' v g w'
    | ok fl h' =>
      rw [hx] at o
      intro m' H' g w'
      cases fl with
      | rt d' => exact fun v rv => o m' v H' g w' rv
      | nx r' => exact fun s' _ => o m' .non H' g w' .non
      | bk r' => exact o.elim
      | ct r' => exact o.elim
theorem fn_all (pr : PrOk K mg G ca T) : ∀ n : Nat, AllFn P w K mg base G ca T W n := by
  intro n
  induction n with
  | zero =>
    intro f x hf
    obtain ⟨c, hc, st, fa, fd, N, ps, qual, F, S, h1, h2, hb, hm, hk⟩ := pr.fn f x hf
    refine ⟨fa, fd, ps, ⟨fun vs H Q E h => h.1, fun A outer s H args us vs Q E _ _ _ _ h => ?_⟩, hm, F.kp, hb, fun ds h e => absurd rfl e⟩
    obtain ⟨_, m, h, ds, _, _, o⟩ := h
    exact o.elim
  | succ n ih =>
    intro f x hf
    obtain ⟨c, hc, st, fa, fd, N, ps, qual, F, S, h1, h2, hb, hm, hk⟩ := pr.fn f x hf
    refine ⟨fa, fd, ps, fn_step pr ih hc F S h1 h2 hk, hm, F.kp, hb, fun ds h e => ?_⟩
    simp only [callD, hc] at e
    by_cases hn : ds.length = c.np
    · rw [hn, h1]
    · rw [if_neg hn] at e
      exact absurd rfl e
end
theorem cstT {K : PySem.W.Frag} {m : List Addr} {H : Hp} {a : Addr} {dd : Option Addr} {its : Array Value} {n : Nat} {sl : Array (Option Value)} {ds : List D} {vs : List V} (h : K.lookup a = some ⟨.type "tuple", dd, .seq its n, sl⟩) (hz : its.size ≤ sizeLine)
    (v : Vals vs its.toList) (r : RDs K m H ds vs) : RD K m H (.tup ds) (.ref a) := .tup (.inr ⟨_, its, n, h, rfl, rfl, hz, v⟩) r
theorem sqR_of {K : PySem.W.Frag} {H : Hp} {a : Addr} {xs : List V} (hO : Only H) (h : SqL K H a xs) : SqR K H a xs := by
  rcases h with (h | h) | h
  · rcases hO a with z | ⟨o, ys, z⟩
    · rw [z] at h; cases h
    · rw [z] at h; cases h
  · exact .inl h
  · exact .inr h
def spO (K : PySem.W.Frag) (f : List D → Hh → Rs D) (n : Nat) : Sp := fun vs H Q _ => vs.length = n ∧ ∃ m h ds d h', Wd K m h H ∧ RDs K m H ds vs ∧ f ds h = .ok d h' ∧ ∀ m' v H', Gr K m H m' H' → Wd K m' h' H' → RD K m' H' d v → Q v H'
theorem spO_D {K : PySem.W.Frag} {ca : Nat → Addr} {f : List D → Hh → Rs D} {n : Nat} {vs : List V} {H : Hp} {Q : VK} {E : XK} (h : spO K f n vs H Q E) : spD K ca f n vs H Q E := by
  obtain ⟨hl, m, h, ds, d, h', w, r, e, c⟩ := h
  exact ⟨hl, m, h, ds, w, r, by rw [e]; exact c⟩
/-- THE LAW: its run over plain data gives True at every script of at most n ints -/
theorem law_of {G : Gs} {T : Nat → Option Fc} {W : Nat} {l : PySem.W.OpenLaw} {n k lw : Nat} {q : Program} {loose : List Str} {XP : (Str → Option Value) → Heap → Prop} {YP : World → Heap → Prop} {d : DefRec} {K : Params → PySem.W.Frag} {x : Str}
    (run : ∀ ns : List Int, ns.length ≤ n → ∃ h', callD G T W (k + 1) lw [.ref 0] [.ro (ns.map D.int)] = .ok (.bl true) h')
    (hn : l.most = some n) (hn2 : n ≤ sizeLine) (hdf : d.params.defaults = []) (hr : Room (k + 1) callerA)
    (hY : ∀ (w : World) (h : Heap), YP w h → (K w.params).In h)
    (F : ∀ (w : World) (mg : Str → Option Value) (fa : Addr) (h : Heap), (K w.params).In h → h.Ns mainGlobals mg → mg d.name = some (.ref fa) →
      ∃ ca : Nat → Addr, PrOk (K w.params) mg G ca T ∧ ∃ fd : FuncData, (∀ (s : Shared) (u : Value), BindsTo s fd ⟨[u], []⟩ [(x, u)]) ∧ ∃ c st N qual, T lw = some c ∧ Fun (K w.params) d.name qual st fa fd ∧ FnScope N [x] (defScope st) ∧ 1 = c.np ∧ N.length = c.ns ∧ SSs N (defScope st) G c.body (defBody st)) :
    PySem.W.WalkO q loose XP YP l.row.toRowW d [] (fun f vs => PySem.call f vs) := by
  refine L2.walk_of (n := n) (k := k + 1) (x := x) (CX := fun w => CX1 l.prog w) (sp := fun w => spO (K w.params) (callD G T W (k + 1) lw) 1) hn hn2 hdf hr hY (fun w mg fa h KX hns hm => ?_) (fun w H a ns hl hO hS => ?_) fun _ _ _ _ _ ⟨_, _, _, _, _, _, _, _, _, z⟩ => z
  · obtain ⟨ca, pr, fd, hb, c, st, N, qual, hc, Fu, S, h1, h2, hk⟩ := F w mg fa h KX hns hm
    exact ⟨fd, hb, fun base _ _ => (fn_step pr (fn_all pr k) hc Fu S h1 h2 hk).imp fun _ _ _ _ => spO_D⟩
  · obtain ⟨h', e⟩ := run ns hl
    refine ⟨rfl, [a], [.ro (ns.map D.int)], [.ref 0], .bl true, h', ⟨rfl, fun i j b o u e1 e2 e3 e4 w1 w2 => ?_, fun i o b e1 e2 => ?_⟩, .cons (.ref rfl) .nil, e, ?_⟩
    · cases i with
      | zero =>
        cases j with
        | zero => rfl
        | succ j => simp at e4
      | succ i => simp at e3
    · cases i with
      | zero =>
        simp at e1 e2
        subst e1; subst e2
        exact ⟨_, sqR_of hO hS, RDs.ints ns⟩
      | succ i => simp at e1
    · intro m' v H' _ _ rd
      cases rd; rfl
end Ng
end
section
set_option Elab.async false
set_option linter.all false
set_option maxRecDepth 100000
set_option maxHeartbeats 4000000
set_option autoImplicit false
namespace Ng
open PySem L2
section
variable {A B : Type} (G : Gs) (cl : Cl) (W : Nat) (r : Ev) (h : Hh)
theorem beq_eq_decide' {α : Type} [BEq α] [LawfulBEq α] [DecidableEq α] (i j : α) : (i == j) = decide (i = j) := by
  by_cases e : i = j
  · subst e; simp
  · rw [decide_eq_false e]; exact beq_eq_false_iff_ne.mpr e
@[simp] theorem bindOk (a : A) (f : A → Hh → Rs B) : (Rs.ok a h).bind f = f a h := rfl
@[simp] theorem nxOk (a : A) : (Rs.ok a h).nx = .ok a h := rfl
@[simp] theorem nxBad : (Rs.bad : Rs A).nx = .bad := rfl
@[simp] theorem nxExc (c : Nat) (r' : Ev) : (Rs.exc c r' h : Rs A).nx = .bad := rfl
@[simp] theorem innOk (a : A) : (Rs.ok a h).inn r = .ok a h := rfl
@[simp] theorem innExc (c : Nat) (r' : Ev) : (Rs.exc c r' h : Rs A).inn r = .exc c r h := rfl
@[simp] theorem bindExc (c : Nat) (r' : Ev) (f : A → Hh → Rs B) : (Rs.exc c r' h : Rs A).bind f = .exc c r' h := rfl
@[simp] theorem bindBad (f : A → Hh → Rs B) : (Rs.bad : Rs A).bind f = .bad := rfl
@[simp] theorem evVar (i : Nat) : ev G cl (.var i) r h = (match r[i]? with | some (some d) => .ok d h | _ => .bad) := by rw [ev] <;> rfl
@[simp] theorem ge0 (a : Option D) (l : Ev) : (a :: l)[0]? = some a := rfl
@[simp] theorem gd0 (a : D) (l : List D) : (a :: l)[0]? = some a := rfl
@[simp] theorem evInt (i : Int) : ev G cl (.int i) r h = .ok (.int i) h := by rw [ev] <;> rfl
@[simp] theorem evBl (i : Bool) : ev G cl (.bl i) r h = .ok (.bl i) h := by rw [ev] <;> rfl
@[simp] theorem evNon : ev G cl .non r h = .ok .non h := by rw [ev] <;> rfl
@[simp] theorem evStr (i : Str) : ev G cl (.str i) r h = .ok (.str i) h := by rw [ev] <;> rfl
@[simp] theorem evGc (i : Nat) : ev G cl (.gc i) r h = (match G.csts[i]? with | some p => .ok p.2 h | none => .bad) := by rw [ev] <;> (cases G.csts[i]? <;> rfl)
@[simp] theorem evTy (t : Ty) : ev G cl (.ty t) r h = .ok (.ty t.nm) h := by rw [ev] <;> rfl
@[simp] theorem evBin (op : Bop) (a b : E) : ev G cl (.bin op a b) r h = (ev G cl a r h).bind fun x h => (ev G cl b r h).bind fun y h => binD op x y h := by rw [ev] <;> rfl
@[simp] theorem evNeg (a : E) : ev G cl (.neg a) r h = (ev G cl a r h).bind fun x h => match x with | .int i => .ok (.int (-i)) h | _ => .bad := by rw [ev] <;> rfl
@[simp] theorem evCmp (op : Cop) (a b : E) : ev G cl (.cmp op a b) r h = (ev G cl a r h).bind fun x h => (ev G cl b r h).bind fun y h => cmpD op x y h := by rw [ev] <;> rfl
@[simp] theorem evAnd (a b : E) : ev G cl (.and a b) r h = (ev G cl a r h).bind fun x h => match truD x h with | some true => ev G cl b r h | some false => .ok x h | none => .bad := by rw [ev] <;> rfl
@[simp] theorem evOr (a b : E) : ev G cl (.or a b) r h = (ev G cl a r h).bind fun x h => match truD x h with | some true => .ok x h | some false => ev G cl b r h | none => .bad := by rw [ev] <;> rfl
@[simp] theorem evNot (a : E) : ev G cl (.not a) r h = (ev G cl a r h).bind fun x h => match truD x h with | some b => .ok (.bl (!b)) h | none => .bad := by rw [ev] <;> rfl
@[simp] theorem evIte (c a b : E) : ev G cl (.ite c a b) r h = (ev G cl c r h).bind fun x h => match truD x h with | some true => ev G cl a r h | some false => ev G cl b r h | none => .bad := by rw [ev] <;> rfl
@[simp] theorem evIx (a b : E) : ev G cl (.ix a b) r h = (ev G cl a r h).bind fun x h => (ev G cl b r h).bind fun y h => ixD x y h := by rw [ev] <;> rfl
@[simp] theorem evTup (l : Es) : ev G cl (.tup l) r h = (evs G cl l r h).bind fun ds h => if ds.length ≤ 1000 then .ok (.tup ds) h else .bad := by rw [ev] <;> rfl
@[simp] theorem evLst (l : Es) : ev G cl (.lst l) r h = (evs G cl l r h).bind fun ds h => if ds.length ≤ 1000 then .ok (.ref h.length) (h ++ [.lst ds]) else .bad := by rw [ev] <;> rfl
@[simp] theorem evCall (f : Nat) (l : Es) : ev G cl (.call f l) r h = (evs G cl l r h).bind fun ds h => (cl f ds h).nx := by rw [ev] <;> rfl
@[simp] theorem evBlt (f : Blt) (l : Es) : ev G cl (.blt f l) r h = (evs G cl l r h).bind fun ds h => bltD f ds h := by rw [ev] <;> rfl
@[simp] theorem evApp (o e : E) : ev G cl (.app o e) r h = (ev G cl o r h).bind fun x h => if isLst x h = true then (ev G cl e r h).bind fun y h => appD x y h else .bad := by rw [ev] <;> rfl
@[simp] theorem evtNil : evt G cl .nil r h = .ok true h := by rw [evt] <;> rfl
@[simp] theorem evtCons (e : E) (l : Es) : evt G cl (.cons e l) r h = (ev G cl e r h).bind fun x h => match truD x h with | some true => evt G cl l r h | some false => .ok false h | none => .bad := by rw [evt] <;> rfl
theorem evComp (t : Tg) (k : Ck) (it cs : Es) (e : E) (N : List Str) (cap : List Nat) : ev G cl (.comp t k it cs e N cap) r h = (evs G cl it r h).bind fun xs h => (compL t (evt G cl cs) (ev G cl e) h.length k xs h (blockE N cap r) (h ++ [.lst []])).bind fun _ h' => .ok (.ref h.length) h' := by rw [ev] <;> rfl
@[simp] theorem evsNil : evs G cl .nil r h = .ok [] h := by rw [evs] <;> rfl
@[simp] theorem evsCons (e : E) (l : Es) : evs G cl (.cons e l) r h = (ev G cl e r h).bind fun d h => (evs G cl l r h).bind fun ds h => .ok (d :: ds) h := by rw [evs] <;> rfl
@[simp] theorem xsAsg (t : Tg) (e : E) : xs G cl W (.asg t e) r h = (ev G cl e r h).nx.bind fun x h => match setT t x r with | some r1 => .ok (.nx r1) h | none => .bad := by rw [xs] <;> rfl
@[simp] theorem xsAsc (i : Nat) (e : E) : xs G cl W (.asc i e) r h = (ev G cl e r h).nx.bind fun x h => .ok (.nx (r.set i (some x))) h := by rw [xs] <;> rfl
@[simp] theorem xsEx (e : E) : xs G cl W (.ex e) r h = (ev G cl e r h).nx.bind fun _ h => .ok (.nx r) h := by rw [xs] <;> rfl
@[simp] theorem xsRet (e : E) : xs G cl W (.ret e) r h = (ev G cl e r h).nx.bind fun x h => .ok (.rt x) h := by rw [xs] <;> rfl
@[simp] theorem xsIff (c : E) (a b : Ss) : xs G cl W (.iff c a b) r h = (ev G cl c r h).nx.bind fun x h => match truD x h with | some true => xss G cl W a r h | some false => xss G cl W b r h | none => .bad := by rw [xs] <;> rfl
@[simp] theorem xsFor1 (t : Tg) (e : E) (b : Ss) : xs G cl W (.forr t (.r1 e) b) r h = (ev G cl e r h).nx.bind fun x h => match x with | .int j => if okR j then forS t (xss G cl W b) (rngD 0 j) r h else .bad | _ => .bad := by rw [xs] <;> rfl
@[simp] theorem xsFor2 (t : Tg) (e e' : E) (b : Ss) : xs G cl W (.forr t (.r2 e e') b) r h = (ev G cl e r h).nx.bind fun x h => (ev G cl e' r h).nx.bind fun y h => match x, y with | .int i, .int j => if okR i ∧ okR j then forS t (xss G cl W b) (rngD i j) r h else .bad | _, _ => .bad := by rw [xs] <;> rfl
@[simp] theorem xsForS (t : Tg) (e : E) (b : Ss) : xs G cl W (.forr t (.sq e) b) r h = (ev G cl e r h).nx.bind fun x h => forD W t (xss G cl W b) x r h := by rw [xs] <;> rfl
@[simp] theorem xsWhl (c : E) (b : Ss) : xs G cl W (.whl c b) r h = whileF (ev G cl c) (xss G cl W b) W r h := by rw [xs] <;> rfl
@[simp] theorem xsRais (c : Nat) (x : Str) : xs G cl W (.rais c x) r h = .exc c r h := by rw [xs] <;> rfl
@[simp] theorem xsAsgX (t : Tg) (f : Nat) (l : Es) : xs G cl W (.asgX t f l) r h = (evs G cl l r h).nx.bind fun ds h => ((cl f ds h).inn r).bind fun x h => match setT t x r with | some r1 => .ok (.nx r1) h | none => .bad := by rw [xs] <;> rfl
@[simp] theorem xsRetX (f : Nat) (l : Es) : xs G cl W (.retX f l) r h = (evs G cl l r h).nx.bind fun ds h => ((cl f ds h).inn r).bind fun x h => .ok (.rt x) h := by rw [xs] <;> rfl
@[simp] theorem xsExX (f : Nat) (l : Es) : xs G cl W (.exX f l) r h = (evs G cl l r h).nx.bind fun ds h => ((cl f ds h).inn r).bind fun _ h => .ok (.nx r) h := by rw [xs] <;> rfl
@[simp] theorem xsTry (b : Ss) (g : Nat) (j : Option Nat) (hs : List HS) : xs G cl W (.tryx b g j hs) r h = catchD G.sub g j hs (xss G cl W b r h) := by rw [xs] <;> rfl
@[simp] theorem evMxd (mx : Bool) (a b : E) : ev G cl (.mxd mx a b) r h = (ev G cl a r h).bind fun x h => (ev G cl b r h).bind fun y h => bestD mx x y h := by rw [ev] <;> rfl
@[simp] theorem evIns (o i e : E) : ev G cl (.ins o i e) r h = (ev G cl o r h).bind fun x h => if isLst x h = true then (ev G cl i r h).bind fun y h => (ev G cl e r h).bind fun z h => insD x y z h else .bad := by rw [ev] <;> rfl
@[simp] theorem evLrg (a : E) : ev G cl (.lrg a) r h = (ev G cl a r h).bind fun x h => lrgD x h := by rw [ev] <;> rfl
@[simp] theorem evDisp (ks : List Str) (vs : Es) : ev G cl (.disp ks vs) r h = (evs G cl vs r (h ++ [.dct []])).bind fun ds h' => dispD ks ds h.length h' := by rw [ev] <;> rfl
@[simp] theorem xsPass : xs G cl W .pass r h = .ok (.nx r) h := by rw [xs] <;> rfl
@[simp] theorem xsBrk : xs G cl W .brk r h = .ok (.bk r) h := by rw [xs] <;> rfl
@[simp] theorem xsCont : xs G cl W .cont r h = .ok (.ct r) h := by rw [xs] <;> rfl
@[simp] theorem xsStx (o i e : E) : xs G cl W (.stx o i e) r h = (ev G cl e r h).nx.bind fun z h => (ev G cl o r h).nx.bind fun x h => (ev G cl i r h).nx.bind fun y h => (stxD x y z h).nx.bind fun _ h => .ok (.nx r) h := by rw [xs] <;> rfl
@[simp] theorem xssNil : xss G cl W .nil r h = .ok (.nx r) h := by rw [xss] <;> rfl
@[simp] theorem xssCons (s : S) (l : Ss) : xss G cl W (.cons s l) r h = (xs G cl W s r h).bind fun fl h => match fl with | .nx r2 => xss G cl W l r2 h | f => .ok f h := by rw [xss] <;> rfl
theorem xssNx {s : S} {l : Ss} {r r' : Ev} {h h' : Hh} {G : Gs} {cl : Cl} {W : Nat} (e : xs G cl W s r h = .ok (.nx r') h') : xss G cl W (.cons s l) r h = xss G cl W l r' h' := by rw [xssCons, e]; rfl
theorem xssRt {s : S} {l : Ss} {r : Ev} {d : D} {h h' : Hh} {G : Gs} {cl : Cl} {W : Nat} (e : xs G cl W s r h = .ok (.rt d) h') : xss G cl W (.cons s l) r h = .ok (.rt d) h' := by rw [xssCons, e]; rfl
@[simp] theorem setNm (i : Nat) (d : D) : setT (.nm i) d r = some (r.set i (some d)) := rfl
@[simp] theorem setTp (l : List Nat) (ds : List D) : setT (.tp l) (.tup ds) r = if ds.length = l.length then some (setAll l ds r) else none := rfl
@[simp] theorem setAll0 : setAll [] [] r = r := rfl
@[simp] theorem setAll1 (i : Nat) (is : List Nat) (d : D) (ds : List D) : setAll (i :: is) (d :: ds) r = setAll is ds (r.set i (some d)) := rfl
@[simp] theorem bAdd (i j : Int) : binD .add (.int i) (.int j) h = .ok (.int (i + j)) h := rfl
@[simp] theorem bSub (i j : Int) : binD .sub (.int i) (.int j) h = .ok (.int (i - j)) h := rfl
theorem bMulL {i j : Int} (a : -18446744073709551616 < i) (b : i < 18446744073709551616) : binD .mul (.int i) (.int j) h = .ok (.int (i * j)) h := by
  show (if _ then _ else _) = _
  rw [if_pos (.inl ⟨a, b⟩)]
theorem bMulR {i j : Int} (a : -18446744073709551616 < j) (b : j < 18446744073709551616) : binD .mul (.int i) (.int j) h = .ok (.int (i * j)) h := by
  show (if _ then _ else _) = _
  rw [if_pos (.inr ⟨a, b⟩)]
theorem bDiv {i j : Int} (a : 0 < j) (b : j < 1073741824) : binD .fdiv (.int i) (.int j) h = .ok (.int (i / j)) h := by
  show (if _ then _ else _) = _
  rw [if_pos ⟨a, b⟩]
theorem bMod {i j : Int} (a : 0 < j) : binD .mod (.int i) (.int j) h = .ok (.int (i % j)) h := by
  show (if _ then _ else _) = _
  rw [if_pos a]
@[simp] theorem bPow18 : binD .pow (.int 10) (.int 18) h = .ok (.int 1000000000000000000) h := rfl
@[simp] theorem bPow27 : binD .pow (.int 10) (.int 27) h = .ok (.int 1000000000000000000000000000) h := rfl
@[simp] theorem cLt (i j : Int) : cmpD .lt (.int i) (.int j) h = .ok (.bl (decide (i < j))) h := rfl
@[simp] theorem cLe (i j : Int) : cmpD .le (.int i) (.int j) h = .ok (.bl (decide (i ≤ j))) h := rfl
@[simp] theorem cGt (i j : Int) : cmpD .gt (.int i) (.int j) h = .ok (.bl (decide (j < i))) h := rfl
@[simp] theorem cGe (i j : Int) : cmpD .ge (.int i) (.int j) h = .ok (.bl (decide (j ≤ i))) h := rfl
@[simp] theorem cEqI (i j : Int) : cmpD .eq (.int i) (.int j) h = .ok (.bl (decide (i = j))) h := by rw [← beq_eq_decide']; rfl
@[simp] theorem cNeI (i j : Int) : cmpD .ne (.int i) (.int j) h = .ok (.bl (!decide (i = j))) h := by rw [← beq_eq_decide']; rfl
@[simp] theorem cEqB (i j : Bool) : cmpD .eq (.bl i) (.bl j) h = .ok (.bl (decide (i = j))) h := by rw [← beq_eq_decide']; rfl
@[simp] theorem cNeB (i j : Bool) : cmpD .ne (.bl i) (.bl j) h = .ok (.bl (!decide (i = j))) h := by rw [← beq_eq_decide']; rfl
@[simp] theorem cEqS (i j : Str) : cmpD .eq (.str i) (.str j) h = .ok (.bl (decide (i = j))) h := by rw [← beq_eq_decide']; rfl
@[simp] theorem cNeS (i j : Str) : cmpD .ne (.str i) (.str j) h = .ok (.bl (!decide (i = j))) h := by rw [← beq_eq_decide']; rfl
@[simp] theorem cNeT (a b : List D) : cmpD .ne (.tup a) (.tup b) h = (match eqL (eqD 19) a b with | some k => .ok (.bl (!k)) h | none => .bad) := rfl
@[simp] theorem cEqT (a b : List D) : cmpD .eq (.tup a) (.tup b) h = (match eqL (eqD 19) a b with | some k => .ok (.bl k) h | none => .bad) := rfl
@[simp] theorem eqL0 (f : D → D → Option Bool) : eqL f [] [] = some true := rfl
@[simp] theorem eqL1 (f : D → D → Option Bool) (x y : D) (xs ys : List D) : eqL f (x :: xs) (y :: ys) = (match f x y, eqL f xs ys with | some a, some b => some (a && b) | _, _ => none) := rfl
@[simp] theorem eqDI (n : Nat) (i j : Int) : eqD n (.int i) (.int j) = some (decide (i = j)) := by rw [← beq_eq_decide']; cases n <;> rfl
@[simp] theorem eqDS (n : Nat) (i j : Str) : eqD n (.str i) (.str j) = some (decide (i = j)) := by rw [← beq_eq_decide']; cases n <;> rfl
@[simp] theorem eqDT (n : Nat) (a b : List D) : eqD (n + 1) (.tup a) (.tup b) = eqL (eqD n) a b := rfl
@[simp] theorem isInt (i : Int) : isinL (.int i) (.ty "int") h = .ok (.bl true) h := rfl
@[simp] theorem isIntB (i : Int) : isinL (.int i) (.ty "bool") h = .ok (.bl false) h := rfl
@[simp] theorem isIntT (i : Int) : isinL (.int i) (.ty "tuple") h = .ok (.bl false) h := rfl
@[simp] theorem isIntL (i : Int) : isinL (.int i) (.ty "list") h = .ok (.bl false) h := rfl
@[simp] theorem isIntTL (i : Int) : isinL (.int i) (.tup [.ty "tuple", .ty "list"]) h = .ok (.bl false) h := rfl
@[simp] theorem isTupT (l : List D) : isinL (.tup l) (.ty "tuple") h = .ok (.bl true) h := rfl
@[simp] theorem isTupL (l : List D) : isinL (.tup l) (.ty "list") h = .ok (.bl false) h := rfl
@[simp] theorem isTupTL (l : List D) : isinL (.tup l) (.tup [.ty "tuple", .ty "list"]) h = .ok (.bl true) h := rfl
@[simp] theorem isTupB (l : List D) : isinL (.tup l) (.ty "bool") h = .ok (.bl false) h := rfl
@[simp] theorem isTupI (l : List D) : isinL (.tup l) (.ty "int") h = .ok (.bl false) h := rfl
@[simp] theorem nmInt : Ty.int.nm = "int" := rfl
@[simp] theorem nmBool : Ty.bool.nm = "bool" := rfl
@[simp] theorem nmStr : Ty.str.nm = "str" := rfl
@[simp] theorem nmTup : Ty.tuple.nm = "tuple" := rfl
@[simp] theorem nmLst : Ty.list.nm = "list" := rfl
@[simp] theorem cIsN (x : D) : cmpD .is x .non h = .ok (.bl (isNon x)) h := rfl
@[simp] theorem cIsNt (x : D) : cmpD .isnot x .non h = .ok (.bl (!isNon x)) h := rfl
@[simp] theorem tBl (b : Bool) : truD (.bl b) h = some b := rfl
@[simp] theorem tInt (i : Int) : truD (.int i) h = some (i != 0) := rfl
@[simp] theorem sTup (l : List D) : seqD (.tup l) h = some l := rfl
@[simp] theorem sRef (n : Nat) : seqD (.ref n) h = lstAt h n := rfl
@[simp] theorem iTup (l : List D) (i : Int) : ixD (.tup l) (.int i) h = (match atI l i with | some d => .ok d h | none => .bad) := rfl
theorem iRef {n : Nat} {l : List D} (i : Int) (e : lstAt h n = some l) : ixD (.ref n) (.int i) h = (match atI l i with | some d => .ok d h | none => .bad) := by
  have d0 : dctAt h (.ref n) = none := by
    show (match h[n]? with | some (.dct l) => some l | _ => none) = none
    unfold lstAt at e
    cases q : h[n]? with
    | none => rfl
    | some o =>
      cases o with
      | lst l' => rfl
      | ro l' => rfl
      | dct l' => rw [q] at e; cases e
      | dtt l' => rfl
      | ded => rfl
  have e2 : seqD (.ref n) h = some l := e
  have e3 : ixD (.ref n) (.int i) h = (match dctAt h (.ref n) with | some l => ixK l (.int i) h | none => ixS (.ref n) (.int i) h) := rfl
  rw [e3, d0]
  show ixS (.ref n) (.int i) h = _
  unfold ixS
  rw [e2] <;> rfl
@[simp] theorem bLen (x : D) : bltD .len [x] h = (match seqD x h with | some l => .ok (.int l.length) h | none => .bad) := rfl
@[simp] theorem bIs (x y : D) : bltD .isinst [x, y] h = isinL x y h := rfl
@[simp] theorem bIntI (i : Int) : bltD .int [.int i] h = .ok (.int i) h := rfl
@[simp] theorem bIntB (i : Bool) : bltD .int [.bl i] h = .ok (.int (if i then 1 else 0)) h := rfl
@[simp] theorem bList (x : D) : bltD .list [x] h = (match seqD x h with | some l => .ok (.ref h.length) (h ++ [.lst l]) | none => .bad) := rfl
@[simp] theorem isLstR (n : Nat) : isLst (.ref n) h = (lstAt h n).isSome := rfl
@[simp] theorem appR (n : Nat) (y : D) : appD (.ref n) y h = (match h[n]? with | some (.lst l) => if l.length < 1000000 then .ok .non (h.set n (.lst (l ++ [y]))) else .bad | _ => .bad) := rfl
@[simp] theorem lstAt_last (l : List D) : lstAt (h ++ [.lst l]) h.length = some l := by simp [lstAt, lstOf]
theorem lstAt_app {n : Nat} {l : List D} (o : List O) (e : lstAt h n = some l) : lstAt (h ++ o) n = some l := by
  unfold lstAt at e ⊢
  cases q : h[n]? with
  | none => rw [q] at e; cases e
  | some u =>
    rw [List.getElem?_append_left (List.getElem?_eq_some_iff.mp q).1, q]
    rw [q] at e; exact e
@[simp] theorem get_last (o : O) : (h ++ [o])[h.length]? = some o := by simp
@[simp] theorem set_last (o o' : O) : (h ++ [o]).set h.length o' = h ++ [o'] := by simp
@[simp] theorem forS0 (t : Tg) (b : Ev → Hh → Rs Fl) : forS t b [] r h = .ok (.nx r) h := rfl
@[simp] theorem forS1 (t : Tg) (b : Ev → Hh → Rs Fl) (d : D) (ds : List D) : forS t b (d :: ds) r h = (match setT t d r with | none => .bad | some r1 => (b r1 h).bind fun fl h => match fl with | .nx r2 => forS t b ds r2 h | .ct r2 => forS t b ds r2 h | .bk r2 => .ok (.nx r2) h | .rt d => .ok (.rt d) h) := rfl
@[simp] theorem forDT (t : Tg) (b : Ev → Hh → Rs Fl) (l : List D) : forD W t b (.tup l) r h = forS t b l r h := rfl
@[simp] theorem forDR (t : Tg) (b : Ev → Hh → Rs Fl) (n : Nat) : forD W t b (.ref n) r h = forI t b n W 0 r h := rfl
@[simp] theorem endRt (d : D) : endD (.rt d) h = .ok d h := rfl
@[simp] theorem endNx (d : Ev) : endD (.nx d) h = .ok .non h := rfl
end
theorem call_eq {G : Gs} {T : Nat → Option Fc} {W n f : Nat} {c : Fc} {ds : List D} {h : Hh} (hc : T f = some c) (hl : ds.length = c.np) : callD G T W (n + 1) f ds h = (xss G (callD G T W n) W c.body (ds.map some ++ List.replicate (c.ns - c.np) none) h).bind endD := by
  simp only [callD, hc]
  rw [if_pos hl]
end Ng
end
section
set_option Elab.async false
set_option linter.all false
set_option maxRecDepth 100000
set_option maxHeartbeats 4000000
set_option autoImplicit false
namespace Ng
open PySem L2
def dW1c : E := (.and (.cmp .gt (.var 3) (.int 0)) (.cmp .lt (.blt .len (.cons (.var 5) .nil)) (.var 2)))
def dW1b : Ss := (.cons (.ex (.app (.var 5) (.bin .mod (.var 3) (.int 1013)))) (.cons (.asg (.nm 3) (.bin .fdiv (.var 3) (.int 1013))) .nil))
def dW2c : E := (.cmp .lt (.blt .len (.cons (.var 5) .nil)) (.var 2))
def dW2b : Ss := (.cons (.asg (.nm 6) (.bin .add (.blt .len (.cons (.var 5) .nil)) (.int 1))) (.cons (.asg (.nm 4) (.bin .mod (.bin .add (.bin .add (.bin .mul (.var 4) (.int 48271)) (.bin .mul (.bin .mul (.var 6) (.var 6)) (.int 6133))) (.int 17)) (.int 2147483647))) (.cons (.ex (.app (.var 5) (.bin .mod (.bin .mod (.bin .mul (.bin .mod (.var 4) (.int 65521)) (.bin .add (.bin .mod (.bin .fdiv (.var 4) (.int 65521)) (.int 32749)) (.int 1))) (.int 1000003)) (.int 1013)))) .nil)))
def InR (row : List Int) : Prop := ∀ v ∈ row, 0 ≤ v ∧ v < 1013
theorem InR.snoc {row : List Int} {v : Int} (h : InR row) (a : 0 ≤ v) (b : v < 1013) : InR (row ++ [v]) := fun u hu => by
  rcases List.mem_append.mp hu with hu | hu
  · exact h u hu
  · have : u = v := by simpa using hu
    subst this; exact ⟨a, b⟩
section
variable (G : Gs) (cl : Cl) (W : Nat) (h : Hh)
theorem dW1 (M : Nat) (hM : M ≤ 1000) (d0 d1 d4 : Option D) (d6 : Option D) : ∀ (k : Nat) (row : List Int) (cell : Int), row.length ≤ M → InR row → M - row.length < k →
    ∃ row' cell', row'.length ≤ M ∧ InR row' ∧ whileF (ev G cl dW1c) (xss G cl W dW1b) k [d0, d1, some (.int M), some (.int cell), d4, some (.ref h.length), d6] (h ++ [.lst (row.map D.int)])
      = .ok (.nx [d0, d1, some (.int M), some (.int cell'), d4, some (.ref h.length), d6]) (h ++ [.lst (row'.map D.int)])
  | 0, _, _, _, _, hk => by omega
  | k + 1, row, cell, hl, hr, hk => by
    by_cases hc : 0 < cell
    · by_cases hm : row.length < M
      · have hm' : ((row.length : Int) < (M : Int)) := by omega
        have hb : InR (row ++ [cell % 1013]) := hr.snoc (Int.emod_nonneg _ (by decide)) (Int.emod_lt_of_pos _ (by decide))
        obtain ⟨row', cell', h1, h2, h3⟩ := dW1 M hM d0 d1 d4 d6 k (row ++ [cell % 1013]) (cell / 1013) (by simp; omega) hb (by simp; omega)
        refine ⟨row', cell', h1, h2, ?_⟩
        rw [← h3]
        have hz : row.length < 1000000 := by omega
        simp (disch := omega) [whileF, dW1c, dW1b, hc, hm', hm, hz, bMod, bDiv]
      · refine ⟨row, cell, hl, hr, ?_⟩
        have hm' : ¬ ((row.length : Int) < (M : Int)) := by omega
        simp [whileF, dW1c, hc, hm', hm]
    · refine ⟨row, cell, hl, hr, ?_⟩
      simp [whileF, dW1c, hc]
def nxS (mark seed : Int) : Int := (seed * 48271 + mark * mark * 6133 + 17) % 2147483647
def nxV (s : Int) : Int := (s % 65521) * (s / 65521 % 32749 + 1) % 1000003 % 1013
theorem dT2 (d0 d1 d2 d3 d5 : Option D) (mark seed : Int) (hm : 0 ≤ mark) (hm2 : mark < 100000) (hh : Hh) :
    xs G cl W (.asg (.nm 4) (.bin .mod (.bin .add (.bin .add (.bin .mul (.var 4) (.int 48271)) (.bin .mul (.bin .mul (.var 6) (.var 6)) (.int 6133))) (.int 17)) (.int 2147483647))) [d0, d1, d2, d3, some (.int seed), d5, some (.int mark)] hh
      = .ok (.nx [d0, d1, d2, d3, some (.int (nxS mark seed)), d5, some (.int mark)]) hh := by
  have m1 : binD .mul (.int mark) (.int mark) hh = .ok (.int (mark * mark)) hh := bMulL hh (by omega) (by omega)
  have m2 : binD .mul (.int seed) (.int 48271) hh = .ok (.int (seed * 48271)) hh := bMulR hh (by omega) (by omega)
  have m3 : ∀ x : Int, binD .mul (.int x) (.int 6133) hh = .ok (.int (x * 6133)) hh := fun x => bMulR hh (by omega) (by omega)
  have q1 : ∀ x : Int, binD .mod (.int x) (.int 2147483647) hh = .ok (.int (x % 2147483647)) hh := fun x => bMod hh (by omega)
  have e1 : ∀ x : Int, (seed * 48271 + mark * mark * 6133 + 17) % 2147483647 = nxS mark seed := fun _ => rfl
  simp only [xsAsg, evBin, evVar, List.getElem?_cons_succ, ge0, evInt, bindOk, nxOk, m1, m2, m3, bAdd, q1, setNm, List.set_cons_succ, List.set_cons_zero, e1 0]
theorem dT3 (d0 d1 d2 d3 d6 : Option D) (row : List Int) (seed : Int) (hz : row.length < 1000000) :
    xs G cl W (.ex (.app (.var 5) (.bin .mod (.bin .mod (.bin .mul (.bin .mod (.var 4) (.int 65521)) (.bin .add (.bin .mod (.bin .fdiv (.var 4) (.int 65521)) (.int 32749)) (.int 1))) (.int 1000003)) (.int 1013)))) [d0, d1, d2, d3, some (.int seed), some (.ref h.length), d6] (h ++ [.lst (row.map D.int)])
      = .ok (.nx [d0, d1, d2, d3, some (.int seed), some (.ref h.length), d6]) (h ++ [.lst ((row ++ [nxV seed]).map D.int)]) := by
  have hk := Int.emod_nonneg seed (show (65521 : Int) ≠ 0 by decide)
  have hk2 := Int.emod_lt_of_pos seed (show (0 : Int) < 65521 by decide)
  have m4 : ∀ (x : Int) hh, binD .mul (.int (seed % 65521)) (.int x) hh = .ok (.int ((seed % 65521) * x)) hh := fun x hh => bMulL hh (by omega) (by omega)
  have q2 : ∀ (x : Int) hh, binD .mod (.int x) (.int 65521) hh = .ok (.int (x % 65521)) hh := fun x hh => bMod hh (by omega)
  have q3 : ∀ (x : Int) hh, binD .mod (.int x) (.int 32749) hh = .ok (.int (x % 32749)) hh := fun x hh => bMod hh (by omega)
  have q4 : ∀ (x : Int) hh, binD .mod (.int x) (.int 1000003) hh = .ok (.int (x % 1000003)) hh := fun x hh => bMod hh (by omega)
  have q5 : ∀ (x : Int) hh, binD .mod (.int x) (.int 1013) hh = .ok (.int (x % 1013)) hh := fun x hh => bMod hh (by omega)
  have q6 : ∀ (x : Int) hh, binD .fdiv (.int x) (.int 65521) hh = .ok (.int (x / 65521)) hh := fun x hh => bDiv hh (by omega) (by omega)
  have e2 : ∀ s : Int, (s % 65521) * (s / 65521 % 32749 + 1) % 1000003 % 1013 = nxV s := fun _ => rfl
  simp only [xsEx, evBin, evVar, List.getElem?_cons_succ, ge0, evInt, bindOk, nxOk, evApp, isLstR, lstAt_last, Option.isSome_some, if_true, bAdd, q2, q3, q4, q5, q6, m4, e2, appR, get_last, List.length_map, hz, if_pos, set_last, List.map_append, List.map_cons, List.map_nil]
theorem dT1 (d0 d1 d2 d3 d4 d6 : Option D) (row : List Int) :
    xs G cl W (.asg (.nm 6) (.bin .add (.blt .len (.cons (.var 5) .nil)) (.int 1))) [d0, d1, d2, d3, d4, some (.ref h.length), d6] (h ++ [.lst (row.map D.int)])
      = .ok (.nx [d0, d1, d2, d3, d4, some (.ref h.length), some (.int ((row.length : Int) + 1))]) (h ++ [.lst (row.map D.int)]) := by
  simp only [xsAsg, evBin, evBlt, evsCons, evsNil, evVar, List.getElem?_cons_succ, ge0, evInt, bindOk, nxOk, bLen, sRef, lstAt_last, List.length_map, bAdd, setNm, List.set_cons_succ, List.set_cons_zero]
theorem dW2turn (d0 d1 d2 d3 d6 : Option D) (row : List Int) (seed : Int) (hz : row.length < 1000) :
    xss G cl W dW2b [d0, d1, d2, d3, some (.int seed), some (.ref h.length), d6] (h ++ [.lst (row.map D.int)])
      = .ok (.nx [d0, d1, d2, d3, some (.int (nxS ((row.length : Int) + 1) seed)), some (.ref h.length), some (.int ((row.length : Int) + 1))]) (h ++ [.lst ((row ++ [nxV (nxS ((row.length : Int) + 1) seed)]).map D.int)]) := by
  rw [dW2b, xssNx (dT1 G cl W h d0 d1 d2 d3 _ d6 row), xssNx (dT2 G cl W d0 d1 d2 d3 _ _ seed (by omega) (by omega) _), xssNx (dT3 G cl W h _ _ _ _ _ row _ (by omega)), xssNil]
theorem dW2 (M : Nat) (hM : M ≤ 1000) (d0 d1 d3 : Option D) : ∀ (k : Nat) (row : List Int) (seed : Int) (d6 : Option D), row.length ≤ M → InR row → M - row.length < k →
    ∃ row' seed' d6', row'.length = M ∧ InR row' ∧ whileF (ev G cl dW2c) (xss G cl W dW2b) k [d0, d1, some (.int M), d3, some (.int seed), some (.ref h.length), d6] (h ++ [.lst (row.map D.int)])
      = .ok (.nx [d0, d1, some (.int M), d3, some (.int seed'), some (.ref h.length), d6']) (h ++ [.lst (row'.map D.int)]) := by
  intro k
  induction k with
  | zero => intro row seed d6 _ _ hk; omega
  | succ k ih =>
    intro row seed d6 hl hr hk
    by_cases hm : row.length < M
    · have hm' : ((row.length : Int) < (M : Int)) := by omega
      obtain ⟨row', seed', d6', h1, h2, h3⟩ := ih (row ++ [nxV (nxS ((row.length : Int) + 1) seed)]) (nxS ((row.length : Int) + 1) seed) (some (.int ((row.length : Int) + 1))) (by simp; omega)
        (hr.snoc (Int.emod_nonneg _ (by decide)) (Int.emod_lt_of_pos _ (by decide))) (by simp; omega)
      refine ⟨row', seed', d6', h1, h2, ?_⟩
      rw [← h3]
      have hc : ev G cl dW2c [d0, d1, some (.int M), d3, some (.int seed), some (.ref h.length), d6] (h ++ [.lst (row.map D.int)]) = .ok (.bl true) (h ++ [.lst (row.map D.int)]) := by simp [dW2c, hm]
      simp only [whileF, hc, bindOk, nxOk, tBl, dW2turn G cl W h d0 d1 _ d3 d6 row seed (by omega)]
    · refine ⟨row, seed, d6, by omega, hr, ?_⟩
      have hc : ev G cl dW2c [d0, d1, some (.int M), d3, some (.int seed), some (.ref h.length), d6] (h ++ [.lst (row.map D.int)]) = .ok (.bl false) (h ++ [.lst (row.map D.int)]) := by simp [dW2c, hm]
      simp only [whileF, hc, bindOk, nxOk, tBl]
def dIf : S := .iff (.cmp .lt (.var 1) (.blt .len (.cons (.var 0) .nil))) (.cons (.asg (.nm 3) (.ix (.var 0) (.var 1))) .nil) (.cons (.iff (.cmp .gt (.blt .len (.cons (.var 0) .nil)) (.int 0)) (.cons (.asg (.nm 3) (.bin .add (.bin .add (.bin .mod (.ix (.var 0) (.bin .mod (.var 1) (.blt .len (.cons (.var 0) .nil)))) (.int 999983)) (.bin .mul (.bin .mul (.var 1) (.var 1)) (.int 97))) (.int 1))) .nil) .nil) .nil)
def drawsB : Ss := (.cons (.asg (.nm 3) (.bin .add (.bin .mul (.int 7) (.var 1)) (.int 1))) (.cons dIf (.cons (.asg (.nm 4) (.bin .add (.bin .add (.bin .mod (.var 3) (.int 999983)) (.bin .mul (.int 31) (.var 1))) (.int 5))) (.cons (.asg (.nm 5) (.lst .nil)) (.cons (.iff (.cmp .ge (.var 3) (.bin .pow (.int 10) (.int 18))) (.cons (.whl dW1c dW1b) .nil) .nil) (.cons (.whl dW2c dW2b) (.cons (.ret (.var 5)) .nil)))))))
theorem atI_ok {l : List Int} {i : Int} (a : 0 ≤ i) (b : i < l.length) : ∃ v, atI (l.map D.int) i = some (.int v) := by
  have hb : i.toNat < l.length := by omega
  refine ⟨l[i.toNat], ?_⟩
  have := atI_nat (xs := l.map D.int) (j := i.toNat) (v := .int l[i.toNat]) (by rw [List.getElem?_map, List.getElem?_eq_getElem hb]; rfl)
  rwa [show ((i.toNat : Nat) : Int) = i by omega] at this
theorem dIf_ok (s : Nat) (ns : List Int) (at' c0 : Int) (d2 d4 d5 d6 : Option D) (h0 : 0 ≤ at') (h1 : at' < 100000) (hs : lstAt h s = some (ns.map D.int)) :
    ∃ c : Int, xs G cl W dIf [some (.ref s), some (.int at'), d2, some (.int c0), d4, d5, d6] h = .ok (.nx [some (.ref s), some (.int at'), d2, some (.int c), d4, d5, d6]) h := by
  by_cases hl : at' < (ns.length : Int)
  · obtain ⟨v, hv⟩ := atI_ok h0 hl
    exact ⟨v, by simp [dIf, hs, hl, hv, iRef h _ hs]⟩
  · by_cases hp : (0 : Int) < ns.length
    · obtain ⟨v, hv⟩ := atI_ok (l := ns) (i := at' % ns.length) (Int.emod_nonneg _ (by omega)) (Int.emod_lt_of_pos _ hp)
      have m0 : ∀ x : Int, binD .mod (.int x) (.int ns.length) h = .ok (.int (x % ns.length)) h := fun x => bMod h hp
      have m1 : binD .mul (.int at') (.int at') h = .ok (.int (at' * at')) h := bMulL h (by omega) (by omega)
      have m2 : ∀ x : Int, binD .mul (.int x) (.int 97) h = .ok (.int (x * 97)) h := fun x => bMulR h (by omega) (by omega)
      have m3 : ∀ x : Int, binD .mod (.int x) (.int 999983) h = .ok (.int (x % 999983)) h := fun x => bMod h (by omega)
      refine ⟨v % 999983 + at' * at' * 97 + 1, ?_⟩
      simp only [dIf, xsIff, xssCons, xssNil, xsAsg, evCmp, evVar, List.getElem?_cons_succ, ge0, evBlt, evsCons, evsNil, bindOk, nxOk, bLen, sRef, hs, List.length_map, cLt, tBl, hl, decide_false, evInt, cGt, hp, decide_true, evBin, evIx, m0, iRef h _ hs, hv, m1, m2, m3, bAdd, setNm, List.set_cons_succ, List.set_cons_zero]
    · have hp2 : ¬ (0 < ns.length) := by omega
      exact ⟨c0, by simp [dIf, hs, hl, hp, hp2]⟩
/-- THE DRAWS: a new list of that many ints from 0 to 1012 -/
theorem draws_ok (s : Nat) (ns : List Int) (at' : Int) (M : Nat) (hM : M ≤ 1000) (h0 : 0 ≤ at') (h1 : at' < 100000) (hs : lstAt h s = some (ns.map D.int)) (hW : 2000 ≤ W) :
    ∃ row : List Int, row.length = M ∧ InR row ∧ xss G cl W drawsB [some (.ref s), some (.int at'), some (.int M), none, none, none, none] h = .ok (.rt (.ref h.length)) (h ++ [.lst (row.map D.int)]) := by
  have a1 : xs G cl W (.asg (.nm 3) (.bin .add (.bin .mul (.int 7) (.var 1)) (.int 1))) [some (.ref s), some (.int at'), some (.int M), none, none, none, none] h = .ok (.nx [some (.ref s), some (.int at'), some (.int M), some (.int (7 * at' + 1)), none, none, none]) h := by
    have m1 : binD .mul (.int 7) (.int at') h = .ok (.int (7 * at')) h := bMulL h (by omega) (by omega)
    simp only [xsAsg, evBin, evVar, List.getElem?_cons_succ, ge0, evInt, bindOk, nxOk, m1, bAdd, setNm, List.set_cons_succ, List.set_cons_zero]
  obtain ⟨c, a2⟩ := dIf_ok G cl W h s ns at' (7 * at' + 1) (some (.int M)) none none none h0 h1 hs
  have a3 : xs G cl W (.asg (.nm 4) (.bin .add (.bin .add (.bin .mod (.var 3) (.int 999983)) (.bin .mul (.int 31) (.var 1))) (.int 5))) [some (.ref s), some (.int at'), some (.int M), some (.int c), none, none, none] h = .ok (.nx [some (.ref s), some (.int at'), some (.int M), some (.int c), some (.int (c % 999983 + 31 * at' + 5)), none, none]) h := by
    have m1 : binD .mul (.int 31) (.int at') h = .ok (.int (31 * at')) h := bMulL h (by omega) (by omega)
    have m3 : ∀ x : Int, binD .mod (.int x) (.int 999983) h = .ok (.int (x % 999983)) h := fun x => bMod h (by omega)
    simp only [xsAsg, evBin, evVar, List.getElem?_cons_succ, ge0, evInt, bindOk, nxOk, m1, m3, bAdd, setNm, List.set_cons_succ, List.set_cons_zero]
  have a4 : ∀ x : Int, xs G cl W (.asg (.nm 5) (.lst .nil)) [some (.ref s), some (.int at'), some (.int M), some (.int c), some (.int x), none, none] h = .ok (.nx [some (.ref s), some (.int at'), some (.int M), some (.int c), some (.int x), some (.ref h.length), none]) (h ++ [.lst (([] : List Int).map D.int)]) := fun x => by
    simp [xsAsg]
  have a5 : ∀ x : Int, ∃ row c', row.length ≤ M ∧ InR row ∧ xs G cl W (.iff (.cmp .ge (.var 3) (.bin .pow (.int 10) (.int 18))) (.cons (.whl dW1c dW1b) .nil) .nil) [some (.ref s), some (.int at'), some (.int M), some (.int c), some (.int x), some (.ref h.length), none] (h ++ [.lst (([] : List Int).map D.int)])
      = .ok (.nx [some (.ref s), some (.int at'), some (.int M), some (.int c'), some (.int x), some (.ref h.length), none]) (h ++ [.lst (row.map D.int)]) := fun x => by
    by_cases hc : (1000000000000000000 : Int) ≤ c
    · obtain ⟨row, c', r1, r2, r3⟩ := dW1 G cl W h M hM (some (.ref s)) (some (.int at')) (some (.int x)) none W [] c (Nat.zero_le _) (fun _ z => by cases z) (by simp; omega)
      refine ⟨row, c', r1, r2, ?_⟩
      simp only [xsIff, evCmp, evVar, List.getElem?_cons_succ, ge0, evBin, evInt, bindOk, nxOk, bPow18, cGe, hc, decide_true, tBl, xssCons, xsWhl, r3, xssNil]
    · refine ⟨[], c, Nat.zero_le _, (fun _ z => by cases z), ?_⟩
      simp only [xsIff, evCmp, evVar, List.getElem?_cons_succ, ge0, evBin, evInt, bindOk, nxOk, bPow18, cGe, hc, decide_false, tBl, xssNil]
  obtain ⟨row1, c', r1, r2, a5⟩ := a5 (c % 999983 + 31 * at' + 5)
  obtain ⟨row, sd, d6, q1, q2, a6⟩ := dW2 G cl W h M hM (some (.ref s)) (some (.int at')) (some (.int c')) W row1 (c % 999983 + 31 * at' + 5) none r1 r2 (by omega)
  refine ⟨row, q1, q2, ?_⟩
  rw [drawsB, xssNx a1, xssNx a2, xssNx a3, xssNx (a4 _), xssNx a5, xssNx (show xs G cl W (.whl dW2c dW2b) _ _ = _ from (xsWhl G cl W _ _ dW2c dW2b).trans a6)]
  exact xssRt (by simp only [xsRet, evVar, List.getElem?_cons_succ, ge0, bindOk, nxOk])
end
end Ng
end
section
set_option Elab.async false
set_option linter.all false
set_option maxRecDepth 100000
set_option maxHeartbeats 4000000
set_option autoImplicit false
namespace Ng
open PySem L2
theorem forS_id {t : Tg} {body : Ev → Hh → Rs Fl} (F : Ev → Prop) (h : Hh) : ∀ (l : List D), (∀ d ∈ l, ∀ r, F r → ∃ r1 r2, setT t d r = some r1 ∧ body r1 h = .ok (.nx r2) h ∧ F r2) → ∀ r, F r → ∃ r', forS t body l r h = .ok (.nx r') h ∧ F r'
  | [], _, r, hF => ⟨r, by simp, hF⟩
  | d :: l, hb, r, hF => by
    obtain ⟨r1, r2, e1, e2, f2⟩ := hb d List.mem_cons_self r hF
    obtain ⟨r', e3, f3⟩ := forS_id F h l (fun d hd => hb d (List.mem_cons_of_mem _ hd)) r2 f2
    refine ⟨r', ?_, f3⟩
    rw [← e3, forS1, e1]
    show (body r1 h).bind _ = _
    rw [e2]
    rfl
theorem t8 {t : Int} (h0 : 0 ≤ t) (h1 : t < 8) : t = 0 ∨ t = 1 ∨ t = 2 ∨ t = 3 ∨ t = 4 ∨ t = 5 ∨ t = 6 ∨ t = 7 := by omega
/-- the eight turns -/
def tx (t x y : Int) : Int := if t = 0 then x else if t = 1 then -y else if t = 2 then -x else if t = 3 then y else if t = 4 then -x else if t = 5 then -y else if t = 6 then x else y
def ty (t x y : Int) : Int := if t = 0 then y else if t = 1 then x else if t = 2 then -y else if t = 3 then -x else if t = 4 then y else if t = 5 then -x else if t = 6 then -y else x
section
variable (h : Hh)
@[simp] theorem isStrTL (i : Str) : isinL (.str i) (.tup [.ty "tuple", .ty "list"]) h = .ok (.bl false) h := rfl
@[simp] theorem isBlTL (i : Bool) : isinL (.bl i) (.tup [.ty "tuple", .ty "list"]) h = .ok (.bl false) h := rfl
@[simp] theorem isNonTL : isinL .non (.tup [.ty "tuple", .ty "list"]) h = .ok (.bl false) h := rfl
@[simp] theorem isStrB (i : Str) : isinL (.str i) (.ty "bool") h = .ok (.bl false) h := rfl
@[simp] theorem isStrI (i : Str) : isinL (.str i) (.ty "int") h = .ok (.bl false) h := rfl
@[simp] theorem isStrS (i : Str) : isinL (.str i) (.ty "str") h = .ok (.bl true) h := rfl
@[simp] theorem isBlB (i : Bool) : isinL (.bl i) (.ty "bool") h = .ok (.bl true) h := rfl
@[simp] theorem inN : isNon .non = true := rfl
@[simp] theorem inI (i : Int) : isNon (.int i) = false := rfl
@[simp] theorem inS (i : Str) : isNon (.str i) = false := rfl
@[simp] theorem inB (i : Bool) : isNon (.bl i) = false := rfl
@[simp] theorem inT (i : List D) : isNon (.tup i) = false := rfl
@[simp] theorem inR (i : Nat) : isNon (.ref i) = false := rfl
end
/-- plain data, no deeper than that -/
def pd : Nat → D → Bool
  | _, .int _ => true
  | _, .str _ => true
  | _, .bl _ => true
  | _, .non => true
  | k + 1, .tup l => decide (l.length ≤ 1000) && l.all (pd k)
  | _, _ => false
theorem rngD_mem {j : Nat} {d : D} (hd : d ∈ rngD 0 j) : ∃ k : Nat, k < j ∧ d = .int k := by
  unfold rngD at hd
  obtain ⟨k, hk, rfl⟩ := List.mem_map.mp hd
  exact ⟨k, by simpa using hk, by simp⟩
end Ng
end
section
set_option Elab.async false
set_option linter.all false
set_option maxRecDepth 100000
set_option maxHeartbeats 4000000
set_option autoImplicit false
namespace Ng
open PySem L2
theorem get_mid (h0 g : Hh) (o : O) : (h0 ++ o :: g)[h0.length]? = some o := by simp
theorem set_mid (h0 g : Hh) (o o' : O) : (h0 ++ o :: g).set h0.length o' = h0 ++ o' :: g := by simp
theorem app_mid (h0 g : Hh) (l : List D) (y : D) (hl : l.length < 1000000) : appD (.ref h0.length) y (h0 ++ .lst l :: g) = .ok .non (h0 ++ .lst (l ++ [y]) :: g) := by
  rw [appR, get_mid]
  show (if _ then _ else _) = _
  rw [if_pos hl, set_mid]
theorem lstAt_mid (h0 g : Hh) (l : List D) : lstAt (h0 ++ .lst l :: g) h0.length = some l := by
  unfold lstAt; rw [get_mid]; rfl
theorem forS_inv {t : Tg} {body : Ev → Hh → Rs Fl} (I : Nat → Ev → Hh → Prop) : ∀ (l : List D) (i : Nat), (∀ j d, l[j]? = some d → ∀ r h, I (i + j) r h → ∃ r1 r2 h2, setT t d r = some r1 ∧ body r1 h = .ok (.nx r2) h2 ∧ I (i + j + 1) r2 h2) →
    ∀ r h, I i r h → ∃ r' h', forS t body l r h = .ok (.nx r') h' ∧ I (i + l.length) r' h'
  | [], i, _, r, h, hI => ⟨r, h, by simp, hI⟩
  | d :: l, i, hb, r, h, hI => by
    obtain ⟨r1, r2, h2, e1, e2, i2⟩ := hb 0 d rfl r h hI
    obtain ⟨r', h', e3, i3⟩ := forS_inv I l (i + 1) (fun j d hd r h hI => by
      have := hb (j + 1) d (by simpa using hd) r h (by rw [show i + (j + 1) = i + 1 + j by omega]; exact hI)
      rw [show i + (j + 1) = i + 1 + j by omega] at this
      exact this) r2 h2 i2
    refine ⟨r', h', ?_, by rw [List.length_cons, show i + (l.length + 1) = i + 1 + l.length by omega]; exact i3⟩
    rw [← e3, forS1, e1]
    show (body r1 h).bind _ = _
    rw [e2]
    rfl
theorem rngD_get (j k : Nat) (hk : k < j) : (rngD 0 j)[k]? = some (D.int k) := by
  unfold rngD
  rw [List.getElem?_map, List.getElem?_range (by simpa using hk)]
  simp
theorem rngD_len (j : Nat) : (rngD 0 j).length = j := by unfold rngD; simp
theorem evComp_r1 {G : Gs} {cl : Cl} {t : Tg} {it cs : Es} {e : E} {N : List Str} {cap : List Nat} {r : Ev} {h h1 h' : Hh} {j : Int} (hi : evs G cl it r h = .ok [.int j] h1) (hj : okR j)
    (hc : compS t (evt G cl cs) (ev G cl e) h1.length (rngD 0 j) (blockE N cap r) (h1 ++ [O.lst []]) = .ok () h') : ev G cl (.comp t .r1 it cs e N cap) r h = .ok (.ref h1.length) h' := by
  rw [evComp, hi]
  show (compL t _ _ _ .r1 [.int j] h1 _ _).bind _ = _
  have e' : compL t (evt G cl cs) (ev G cl e) h1.length .r1 [.int j] h1 (blockE N cap r) (h1 ++ [O.lst []]) = .ok () h' := by
    show (if okR j then _ else _) = _
    rw [if_pos hj]; exact hc
  rw [e']; rfl
theorem evComp_lst {G : Gs} {cl : Cl} {t : Tg} {it cs : Es} {e : E} {N : List Str} {cap : List Nat} {r : Ev} {h h1 h' : Hh} {n : Nat} {l : List D} (hi : evs G cl it r h = .ok [.ref n] h1) (hl : lstAt h1 n = some l)
    (hc : compI t (evt G cl cs) (ev G cl e) h1.length n (l.length + 1) 0 (blockE N cap r) (h1 ++ [O.lst []]) = .ok () h') : ev G cl (.comp t .sq it cs e N cap) r h = .ok (.ref h1.length) h' := by
  rw [evComp, hi]
  show (compL t _ _ _ .sq [.ref n] h1 _ _).bind _ = _
  have e' : compL t (evt G cl cs) (ev G cl e) h1.length .sq [.ref n] h1 (blockE N cap r) (h1 ++ [O.lst []]) = .ok () h' := by
    show (match lstAt h1 n with | some l => compI t (evt G cl cs) (ev G cl e) h1.length n (l.length + 1) 0 (blockE N cap r) (h1 ++ [O.lst []]) | none => .bad) = _
    rw [hl]; exact hc
  rw [e']; rfl
theorem xsFor_r1 {G : Gs} {cl : Cl} {W : Nat} {t : Tg} {e : E} {b : Ss} {r : Ev} {h h1 h' : Hh} {j : Int} {fl : Fl} (hi : ev G cl e r h = .ok (.int j) h1) (hj : okR j) (hf : forS t (xss G cl W b) (rngD 0 j) r h1 = .ok fl h') : xs G cl W (.forr t (.r1 e) b) r h = .ok fl h' := by
  rw [xsFor1, hi]
  show (if okR j then _ else _) = _
  rw [if_pos hj]; exact hf
theorem okR_nat {n : Nat} (h : n ≤ 1000000) : okR (n : Int) := by unfold okR; omega
end Ng
end
section
set_option Elab.async false
set_option linter.all false
set_option maxRecDepth 100000
set_option maxHeartbeats 4000000
set_option autoImplicit false
namespace Ng
open PySem L2
def tb (t : Int) : Int := if 4 ≤ t then t else (-t) % 4
theorem tb_in {t : Int} (h0 : 0 ≤ t) (h1 : t < 8) : 0 ≤ tb t ∧ tb t < 8 := by
  unfold tb; split <;> omega
def tbh (a b : Int) : Int := (if 4 ≤ b then b - a else b + a) % 4 + (if decide (4 ≤ a) = decide (4 ≤ b) then 0 else 4)
theorem tbh_in (a b : Int) : 0 ≤ tbh a b ∧ tbh a b < 8 := by
  unfold tbh; split <;> split <;> omega
abbrev M3 := Int × Int × Int
def mo (m : M3) : D := .tup [.int m.1, .int m.2.1, .int m.2.2]
def ok8 (m : M3) : Prop := 0 ≤ m.1 ∧ m.1 < 8
def bh (m n : M3) : M3 := (tbh m.1 n.1, tx n.1 m.2.1 m.2.2 + n.2.1, ty n.1 m.2.1 m.2.2 + n.2.2)
def bk (m : M3) : M3 := (tb m.1, -tx (tb m.1) m.2.1 m.2.2, -ty (tb m.1) m.2.1 m.2.2)
def pl (x : Int × Int) : D := .tup [.int x.1, .int x.2]
/-- a turn by its matrix -/
def cf (t : Int) : Int × Int × Int × Int := if t = 0 then (1, 0, 0, 1) else if t = 1 then (0, -1, 1, 0) else if t = 2 then (-1, 0, 0, -1) else if t = 3 then (0, 1, -1, 0) else if t = 4 then (-1, 0, 0, 1) else if t = 5 then (0, -1, -1, 0) else if t = 6 then (1, 0, 0, -1) else (0, 1, 1, 0)
theorem tx_cf (t x y : Int) : tx t x y = (cf t).1 * x + (cf t).2.1 * y := by
  unfold tx cf
  split
  · simp
  split
  · simp
  split
  · simp
  split
  · simp
  split
  · simp
  split
  · simp
  split
  · simp
  · simp
theorem ty_cf (t x y : Int) : ty t x y = (cf t).2.2.1 * x + (cf t).2.2.2 * y := by
  unfold ty cf
  split
  · simp
  split
  · simp
  split
  · simp
  split
  · simp
  split
  · simp
  split
  · simp
  split
  · simp
  · simp
theorem t00 (t : Int) : tx t 0 0 = 0 ∧ ty t 0 0 = 0 := by rw [tx_cf, ty_cf]; simp
theorem fin8 {t : Int} (h0 : 0 ≤ t) (h1 : t < 8) : ∃ k : Fin 8, t = (k.1 : Int) := ⟨⟨t.toNat, by omega⟩, by simp; omega⟩
theorem tbhC : ∀ a b : Fin 8, cf (tbh (a.1 : Int) (b.1 : Int)) = ((cf (b.1 : Int)).1 * (cf (a.1 : Int)).1 + (cf (b.1 : Int)).2.1 * (cf (a.1 : Int)).2.2.1, (cf (b.1 : Int)).1 * (cf (a.1 : Int)).2.1 + (cf (b.1 : Int)).2.1 * (cf (a.1 : Int)).2.2.2,
    (cf (b.1 : Int)).2.2.1 * (cf (a.1 : Int)).1 + (cf (b.1 : Int)).2.2.2 * (cf (a.1 : Int)).2.2.1, (cf (b.1 : Int)).2.2.1 * (cf (a.1 : Int)).2.1 + (cf (b.1 : Int)).2.2.2 * (cf (a.1 : Int)).2.2.2) := by decide +kernel
/-- two turns, one behind the other -/
theorem t_bh {t u : Int} (h0 : 0 ≤ t) (h1 : t < 8) (h2 : 0 ≤ u) (h3 : u < 8) (x y : Int) : tx (tbh t u) x y = tx u (tx t x y) (ty t x y) ∧ ty (tbh t u) x y = ty u (tx t x y) (ty t x y) := by
  obtain ⟨i, rfl⟩ := fin8 h0 h1
  obtain ⟨j, rfl⟩ := fin8 h2 h3
  simp only [tx_cf, ty_cf, tbhC i j]
  constructor
  · rw [Int.add_mul, Int.add_mul, Int.mul_add, Int.mul_add]
    simp only [Int.mul_assoc]; omega
  · rw [Int.add_mul, Int.add_mul, Int.mul_add, Int.mul_add]
    simp only [Int.mul_assoc]; omega
theorem tbhB : ∀ a : Fin 8, tbh (a.1 : Int) (tb (a.1 : Int)) = 0 ∧ tbh (tb (a.1 : Int)) (a.1 : Int) = 0 ∧ tbh 0 (a.1 : Int) = (a.1 : Int) ∧ tbh (a.1 : Int) 0 = (a.1 : Int) := by decide +kernel
theorem t_0 (x y : Int) : tx 0 x y = x ∧ ty 0 x y = y := ⟨rfl, rfl⟩
theorem t_bk {t : Int} (h0 : 0 ≤ t) (h1 : t < 8) (x y : Int) : tx (tb t) (tx t x y) (ty t x y) = x ∧ ty (tb t) (tx t x y) (ty t x y) = y ∧ tx t (tx (tb t) x y) (ty (tb t) x y) = x ∧ ty t (tx (tb t) x y) (ty (tb t) x y) = y := by
  obtain ⟨b0, b1⟩ := tb_in h0 h1
  have z1 := t_bh h0 h1 b0 b1 x y
  have z2 := t_bh b0 b1 h0 h1 x y
  obtain ⟨i, rfl⟩ := fin8 h0 h1
  have z := tbhB i
  rw [z.1] at z1
  rw [z.2.1] at z2
  exact ⟨z1.1.symm, z1.2.symm, z2.1.symm, z2.2.symm⟩
theorem cf_f : ∀ k : Fin 8, (-2 < (cf (k.1 : Int)).1 ∧ (cf (k.1 : Int)).1 < 2) ∧ (-2 < (cf (k.1 : Int)).2.1 ∧ (cf (k.1 : Int)).2.1 < 2) ∧ (-2 < (cf (k.1 : Int)).2.2.1 ∧ (cf (k.1 : Int)).2.2.1 < 2) ∧ (-2 < (cf (k.1 : Int)).2.2.2 ∧ (cf (k.1 : Int)).2.2.2 < 2) := by decide +kernel
theorem cf_b {t : Int} (h0 : 0 ≤ t) (h1 : t < 8) : (-2 < (cf t).1 ∧ (cf t).1 < 2) ∧ (-2 < (cf t).2.1 ∧ (cf t).2.1 < 2) ∧ (-2 < (cf t).2.2.1 ∧ (cf t).2.2.1 < 2) ∧ (-2 < (cf t).2.2.2 ∧ (cf t).2.2.2 < 2) := by
  obtain ⟨k, rfl⟩ := fin8 h0 h1
  exact cf_f k
theorem cf_at {t : Int} (h0 : 0 ≤ t) (h1 : t < 8) : atI [D.tup [.int 1, .int 0, .int 0, .int 1], .tup [.int 0, .int (-1), .int 1, .int 0], .tup [.int (-1), .int 0, .int 0, .int (-1)], .tup [.int 0, .int 1, .int (-1), .int 0], .tup [.int (-1), .int 0, .int 0, .int 1], .tup [.int 0, .int (-1), .int (-1), .int 0], .tup [.int 1, .int 0, .int 0, .int (-1)], .tup [.int 0, .int 1, .int 1, .int 0]] t = some (.tup [.int (cf t).1, .int (cf t).2.1, .int (cf t).2.2.1, .int (cf t).2.2.2]) := by
  rcases t8 h0 h1 with rfl | rfl | rfl | rfl | rfl | rfl | rfl | rfl <;> rfl
theorem tx_at {t : Int} (h0 : 0 ≤ t) (h1 : t < 8) (x y : Int) : atI [D.tup [.int x, .int y], .tup [.int (-y), .int x], .tup [.int (-x), .int (-y)], .tup [.int y, .int (-x)], .tup [.int (-x), .int y], .tup [.int (-y), .int (-x)], .tup [.int x, .int (-y)], .tup [.int y, .int x]] t = some (.tup [.int (tx t x y), .int (ty t x y)]) := by
  rcases t8 h0 h1 with rfl | rfl | rfl | rfl | rfl | rfl | rfl | rfl <;> rfl
theorem bMul2 {i j : Int} (h : Hh) (a : -2 < i) (b : i < 2) : binD .mul (.int i) (.int j) h = .ok (.int (i * j)) h := bMulL h (by omega) (by omega)
end Ng
end
section
set_option Elab.async false
set_option linter.all false
set_option maxRecDepth 100000
set_option maxHeartbeats 4000000
set_option autoImplicit false
namespace Ng
open PySem L2
theorem forI_gen {t : Tg} {body : Ev → Hh → Rs Fl} {n : Nat} {l : List D} (I : Nat → Ev → Hh → Prop) (R : D → Hh → Prop) (hl : ∀ i r h, I i r h → lstAt h n = some l)
    (hb : ∀ i d, l[i]? = some d → ∀ r h, I i r h → ∃ r1, setT t d r = some r1 ∧ ((∃ r2 h2, body r1 h = .ok (.nx r2) h2 ∧ I (i + 1) r2 h2) ∨ ∃ d h2, body r1 h = .ok (.rt d) h2 ∧ R d h2)) :
    ∀ (k i : Nat) (r : Ev) (h : Hh), I i r h → i ≤ l.length → l.length - i < k → (∃ r' h', forI t body n k i r h = .ok (.nx r') h' ∧ I l.length r' h') ∨ ∃ d h', forI t body n k i r h = .ok (.rt d) h' ∧ R d h' := by
  intro k
  induction k with
  | zero => intro i r h _ _ hk; omega
  | succ k ih =>
    intro i r h hI hi hk
    have e0 := hl i r h hI
    by_cases hlt : i < l.length
    · have ed : l[i]? = some l[i] := List.getElem?_eq_getElem hlt
      obtain ⟨r1, e1, hbb⟩ := hb i _ ed r h hI
      rcases hbb with ⟨r2, h2, e2, i2⟩ | ⟨d, h2, e2, q⟩
      · rcases ih (i + 1) r2 h2 i2 hlt (by omega) with ⟨r', h', e3, i3⟩ | ⟨d, h', e3, q⟩
        · exact .inl ⟨r', h', by simp only [forI, e0, ed, e1, e2, bindOk, e3], i3⟩
        · exact .inr ⟨d, h', by simp only [forI, e0, ed, e1, e2, bindOk, e3], q⟩
      · exact .inr ⟨d, h2, by simp only [forI, e0, ed, e1, e2, bindOk], q⟩
    · have ed : l[i]? = none := List.getElem?_eq_none_iff.mpr (by omega)
      have hi' : i = l.length := by omega
      subst hi'
      exact .inl ⟨r, h, by simp only [forI, e0, ed], hI⟩
theorem lstAt_mid2 {h0 : Hh} {n : Nat} {l : List D} (g : Hh) (e : lstAt h0 n = some l) : lstAt (h0 ++ g) n = some l := lstAt_app h0 g e
/-- one item of a comprehension -/
structure It {α : Type} (φ : α → D) (t : Tg) (cs : Ev → Hh → Rs Bool) (f : Ev → Hh → Rs D) (h0 : Hh) (F : Ev → Prop) (p : α → Bool) (g : α → D) (x : α) : Prop where
  it : ∀ r ys gb, F r → ∃ r1 g1, setT t (φ x) r = some r1 ∧ cs r1 (h0 ++ .lst ys :: gb) = .ok (p x) (h0 ++ .lst ys :: (gb ++ g1)) ∧ F r1 ∧ (p x = true → ∃ g2, f r1 (h0 ++ .lst ys :: (gb ++ g1)) = .ok (g x) (h0 ++ .lst ys :: (gb ++ g1 ++ g2)))
theorem compS_gen {α : Type} {φ : α → D} {t : Tg} {cs : Ev → Hh → Rs Bool} {f : Ev → Hh → Rs D} {h0 : Hh} {F : Ev → Prop} {p : α → Bool} {g : α → D} : ∀ (l : List α), (∀ d ∈ l, It φ t cs f h0 F p g d) →
    ∀ r ys gb, F r → ys.length + l.length < 1000000 → ∃ gb', compS t cs f h0.length (l.map φ) r (h0 ++ .lst ys :: gb) = .ok () (h0 ++ .lst (ys ++ (l.filter p).map g) :: gb')
  | [], _, r, ys, gb, _, _ => ⟨gb, by simp [compS]⟩
  | d :: l, hb, r, ys, gb, hF, hl => by
    obtain ⟨r1, g1, e1, e2, f1, e3⟩ := (hb d List.mem_cons_self).it r ys gb hF
    by_cases hp : p d = true
    · obtain ⟨g2, e3⟩ := e3 hp
      obtain ⟨gb', e4⟩ := compS_gen l (fun d hd => hb d (List.mem_cons_of_mem _ hd)) r1 (ys ++ [g d]) (gb ++ g1 ++ g2) f1 (by simp at hl ⊢; omega)
      refine ⟨gb', ?_⟩
      rw [hp] at e2
      simp only [List.map_cons, compS, e1, e2, bindOk, if_true, e3, app_mid _ _ _ _ (show ys.length < 1000000 by simp at hl; omega), e4, List.filter_cons, hp]
      simp
    · obtain ⟨gb', e4⟩ := compS_gen l (fun d hd => hb d (List.mem_cons_of_mem _ hd)) r1 ys (gb ++ g1) f1 (by simp at hl ⊢; omega)
      refine ⟨gb', ?_⟩
      have hp' : p d = false := by simpa using hp
      rw [hp'] at e2
      simp only [List.map_cons, compS, e1, e2, bindOk, if_false, Bool.false_eq_true, e4, List.filter_cons, hp']
theorem compI_gen {α : Type} {φ : α → D} {t : Tg} {cs : Ev → Hh → Rs Bool} {f : Ev → Hh → Rs D} {h0 : Hh} {F : Ev → Prop} {p : α → Bool} {g : α → D} {n : Nat} {l : List α} (hl : lstAt h0 n = some (l.map φ)) (hb : ∀ d ∈ l, It φ t cs f h0 F p g d) (hm : ∀ z : Nat, z ≤ 2 * l.length → z < 1000000) :
    ∀ k i r ys gb, F r → i ≤ l.length → l.length - i < k → ys.length ≤ i → ∃ gb', compI t cs f h0.length n k i r (h0 ++ .lst ys :: gb) = .ok () (h0 ++ .lst (ys ++ ((l.drop i).filter p).map g) :: gb') := by
  intro k
  induction k with
  | zero => intro i r ys gb _ _ hk; omega
  | succ k ih =>
    intro i r ys gb hF hi hk hy
    have e0 : lstAt (h0 ++ .lst ys :: gb) n = some (l.map φ) := lstAt_mid2 _ hl
    by_cases hlt : i < l.length
    · have ed : (l.map φ)[i]? = some (φ l[i]) := by rw [List.getElem?_map, List.getElem?_eq_getElem hlt]; rfl
      have hdr : l.drop i = l[i] :: l.drop (i + 1) := List.drop_eq_getElem_cons hlt
      obtain ⟨r1, g1, e1, e2, f1, e3⟩ := (hb l[i] (List.getElem_mem hlt)).it r ys gb hF
      by_cases hp : p l[i] = true
      · obtain ⟨g2, e3⟩ := e3 hp
        obtain ⟨gb', e4⟩ := ih (i + 1) r1 (ys ++ [g l[i]]) (gb ++ g1 ++ g2) f1 hlt (by omega) (by simp; omega)
        refine ⟨gb', ?_⟩
        rw [hp] at e2
        simp only [compI, e0, ed, e1, e2, bindOk, if_true, e3, app_mid _ _ _ _ (hm ys.length (by omega)), e4, hdr, List.filter_cons, hp]
        simp
      · obtain ⟨gb', e4⟩ := ih (i + 1) r1 ys (gb ++ g1) f1 hlt (by omega) (by omega)
        refine ⟨gb', ?_⟩
        have hp' : p l[i] = false := by simpa using hp
        rw [hp'] at e2
        simp only [compI, e0, ed, e1, e2, bindOk, if_false, Bool.false_eq_true, e4, hdr, List.filter_cons, hp']
    · have ed : (l.map φ)[i]? = none := List.getElem?_eq_none_iff.mpr (by simp; omega)
      refine ⟨gb, ?_⟩
      simp only [compI, e0, ed, List.drop_eq_nil_of_le (show l.length ≤ i by omega), List.filter_nil, List.map_nil, List.append_nil]
section
variable {α : Type} {φ : α → D} {G : Gs} {cl : Cl} {t : Tg} {it cs : Es} {e : E} {N : List Str} {cap : List Nat} {r : Ev} {h h1 : Hh}
theorem evC_lst {n : Nat} {l : List α} (φ : α → D) (F : Ev → Prop) (p : α → Bool) (g : α → D) (hi : evs G cl it r h = .ok [.ref n] h1) (hl : lstAt h1 n = some (l.map φ)) (hm : l.length ≤ 1000) (hF : F (blockE N cap r)) (hb : ∀ d ∈ l, It φ t (evt G cl cs) (ev G cl e) h1 F p g d) :
    ∃ gb, ev G cl (.comp t .sq it cs e N cap) r h = .ok (.ref h1.length) (h1 ++ .lst ((l.filter p).map g) :: gb) := by
  obtain ⟨gb, e1⟩ := compI_gen hl hb (fun z hz => by omega) ((l.map φ).length + 1) 0 (blockE N cap r) [] [] hF (Nat.zero_le _) (by simp) (Nat.le_refl _)
  exact ⟨gb, evComp_lst hi hl e1⟩
/-- every item is kept, nothing else laid -/
theorem evC_map {n : Nat} {l : List α} (φ : α → D) (F : Ev → Prop) (g : α → D) (hi : evs G cl it r h = .ok [.ref n] h1) (hl : lstAt h1 n = some (l.map φ)) (hm : l.length ≤ 1000) (hF : F (blockE N cap r))
    (hb : ∀ d ∈ l, ∀ r h, F r → ∃ r1, setT t (φ d) r = some r1 ∧ F r1 ∧ ev G cl e r1 h = .ok (g d) h) :
    ∃ gb, ev G cl (.comp t .sq it .nil e N cap) r h = .ok (.ref h1.length) (h1 ++ .lst (l.map g) :: gb) := by
  obtain ⟨gb, q⟩ := evC_lst (cs := .nil) (e := e) (t := t) (N := N) (cap := cap) φ F (fun _ => true) g hi hl hm hF fun d hd => ⟨fun r ys gb hr => by
    obtain ⟨r1, e1, f1, e2⟩ := hb d hd r (h1 ++ .lst ys :: gb) hr
    exact ⟨r1, [], e1, by rw [evtNil, List.append_nil], f1, fun _ => ⟨[], by rw [List.append_nil, List.append_nil]; exact e2⟩⟩⟩
  rw [List.filter_eq_self.mpr (fun _ _ => rfl)] at q
  exact ⟨gb, q⟩
theorem evC_r1 {j : Nat} (F : Ev → Prop) (p : Nat → Bool) (g : Nat → D) (hi : evs G cl it r h = .ok [.int (j : Int)] h1) (hm : j ≤ 1000) (hF : F (blockE N cap r)) (hb : ∀ d ∈ List.range j, It (fun k : Nat => D.int k) t (evt G cl cs) (ev G cl e) h1 F p g d) :
    ∃ gb, ev G cl (.comp t .r1 it cs e N cap) r h = .ok (.ref h1.length) (h1 ++ .lst (((List.range j).filter p).map g) :: gb) := by
  obtain ⟨gb, e1⟩ := compS_gen (List.range j) hb (blockE N cap r) [] [] hF (by simp; omega)
  have e2 : (List.range j).map (fun k : Nat => D.int k) = rngD 0 j := by
    unfold rngD
    simp
  rw [e2] at e1
  exact ⟨gb, evComp_r1 hi (okR_nat (by omega)) e1⟩
end
theorem isLstTy {n : Nat} {l : List D} (h : Hh) (e : lstAt h n = some l) : tyD (.ref n) h = some .list := by
  show (match lstAt h n with | some _ => some Ty.list | none => none) = _
  rw [e]
theorem isLstT {n : Nat} {l : List D} (h : Hh) (e : lstAt h n = some l) : isinL (.ref n) (.ty "tuple") h = .ok (.bl false) h := by
  simp [isinL, isinD, isLstTy h e, tyNames, isTy]
theorem isLstL {n : Nat} {l : List D} (h : Hh) (e : lstAt h n = some l) : isinL (.ref n) (.ty "list") h = .ok (.bl true) h := by
  simp [isinL, isinD, isLstTy h e, tyNames, isTy]
theorem isLstTL {n : Nat} {l : List D} (h : Hh) (e : lstAt h n = some l) : isinL (.ref n) (.tup [.ty "tuple", .ty "list"]) h = .ok (.bl true) h := by
  simp [isinL, isinD, isinAny, tysOf, isLstTy h e, tyNames, isTy]
theorem intsD_map (L : List Int) : intsD (L.map D.int) = some L := by
  induction L with
  | nil => rfl
  | cons x L ih => simp only [List.map_cons, intsD, ih]; rfl
theorem bestL_ok {h : Hh} {n : Nat} {i : Int} {L : List Int} (mx : Bool) (e : lstAt h n = some ((i :: L).map D.int)) : bestL mx [.ref n] h = .ok (.int (bestI mx i L)) h := by
  have e1 : isLst (.ref n) h = true := by rw [isLstR, e]; rfl
  simp only [bestL, e1, sRef, e, intsD_map]
@[simp] theorem bMaxI (i j : Int) (h : Hh) : bltD .max [.int i, .int j] h = .ok (.int (if j > i then j else i)) h := rfl
@[simp] theorem bMinI (i j : Int) (h : Hh) : bltD .min [.int i, .int j] h = .ok (.int (if j < i then j else i)) h := rfl
end Ng
end
section
set_option Elab.async false
set_option linter.all false
set_option maxRecDepth 100000
set_option maxHeartbeats 4000000
set_option autoImplicit false
namespace Ng
open PySem L2
def Kp (h h' : Hh) : Prop := ∀ (n : Nat) (o : O), h[n]? = some o → h'[n]? = some o
theorem Kp.refl (h : Hh) : Kp h h := fun _ _ e => e
theorem Kp.trans {a b c : Hh} (x : Kp a b) (y : Kp b c) : Kp a c := fun n o e => y n o (x n o e)
theorem Kp.app (h g : Hh) : Kp h (h ++ g) := fun n o e => by rw [List.getElem?_append_left (List.getElem?_eq_some_iff.mp e).1]; exact e
theorem Kp.lst {h h' : Hh} (k : Kp h h') {n : Nat} {l : List D} (e : lstAt h n = some l) : lstAt h' n = some l := by
  unfold lstAt at e ⊢
  cases q : h[n]? with
  | none => rw [q] at e; cases e
  | some o => rw [q] at e; rw [k n o q]; exact e
theorem Kp.len {h h' : Hh} (k : Kp h h') : h.length ≤ h'.length := by
  by_cases z : h.length = 0
  · omega
  · have e := List.getElem?_eq_getElem (show h.length - 1 < h.length by omega)
    have := (List.getElem?_eq_some_iff.mp (k _ _ e)).1
    omega
theorem Kp.set {h h' : Hh} (k : Kp h h') {n : Nat} (o : O) (hn : h.length ≤ n) : Kp h (h'.set n o) := fun j u e => by
  have hj : j < h.length := (List.getElem?_eq_some_iff.mp e).1
  rw [List.getElem?_set_ne (by omega)]
  exact k j u e
structure Tie where
  n : Int
  one : Str
  other : Str
  m : M3
def Tie.d (t : Tie) : D := .tup [.int t.n, .str t.one, .str t.other, mo t.m]
/-- the other end, and the motion to this one -/
def Tie.en (t : Tie) (x : Str) : Option Str := if t.one = x then some t.other else if t.other = x then some t.one else none
def Tie.mv (t : Tie) (x : Str) : M3 := if t.other = x then bk t.m else t.m
end Ng
end
section
set_option Elab.async false
set_option linter.all false
set_option maxRecDepth 100000
set_option maxHeartbeats 4000000
set_option autoImplicit false
namespace Ng
open PySem L2
abbrev Rw := Int × Int × Bool × Int
def wd (b : Bool) : Str := if b then "under" else "star"
def rwD (r : Rw) : D := .tup [.int r.1, .int r.2.1, .str (wd r.2.2.1), .int r.2.2.2]
def mv (m : M3) (r : Rw) : Rw := (tx m.1 r.1 r.2.1 + m.2.1, ty m.1 r.1 r.2.1 + m.2.2, r.2.2)
def bfR (a b : Rw) : Prop := a.1 < b.1 ∨ (a.1 = b.1 ∧ a.2.1 < b.2.1)
def leR (a b : Rw) : Bool := decide (a.1 < b.1 ∨ (a.1 = b.1 ∧ a.2.1 ≤ b.2.1))
def np (a b : Rw) : Prop := ¬ (a.1 = b.1 ∧ a.2.1 = b.2.1)
def UP (l : List Rw) : Prop := l.Pairwise np
def srt (l : List Rw) : List Rw := l.mergeSort leR
theorem srt_perm (l : List Rw) : (srt l).Perm l := List.mergeSort_perm l _
theorem np_symm {a b : Rw} (h : np a b) : np b a := fun z => h ⟨z.1.symm, z.2.symm⟩
theorem UP.perm {l l' : List Rw} (p : l.Perm l') (u : UP l) : UP l' := (p.pairwise_iff fun h => np_symm h).mp u
theorem srt_bf {l : List Rw} (u : UP l) : (srt l).Pairwise bfR := by
  have s : (srt l).Pairwise (fun a b => leR a b = true) := List.pairwise_mergeSort (fun a b c h1 h2 => by simp [leR] at *; omega) (fun a b => by simp [leR]; omega) l
  have v : UP (srt l) := u.perm (srt_perm l).symm
  have := s.and v
  refine this.imp fun {a b} h => ?_
  obtain ⟨h1, h2⟩ := h
  simp [leR] at h1
  unfold bfR
  unfold np at h2
  omega
theorem bfR_asy (a b : Rw) (h : bfR a b) (h' : bfR b a) : False := by unfold bfR at h h'; omega
theorem srt_uniq {l l' : List Rw} (p : l.Perm l') (u : UP l) : srt l = srt l' :=
  chain_uniq bfR_asy ((srt_perm l).trans (p.trans (srt_perm l').symm)) (srt_bf u) (srt_bf (u.perm p))
theorem srt_len (l : List Rw) : (srt l).length = l.length := (srt_perm l).length_eq
theorem bef_of {a b : Rw} (h : bfR a b) : Bef ltK (rwD a) (rwD b) := by
  unfold bfR at h
  unfold Bef
  rcases h with h | ⟨h1, h2⟩
  · have e1 : ¬ a.1 = b.1 := by omega
    have e2 : ¬ b.1 = a.1 := by omega
    have e3 : ¬ b.1 < a.1 := by omega
    exact ⟨by simp [ltK, rwD, ltF, e1, h], by simp [ltK, rwD, ltF, e2]; omega⟩
  · have e1 : ¬ a.2.1 = b.2.1 := by omega
    have e2 : ¬ b.2.1 = a.2.1 := by omega
    have e3 : ¬ b.2.1 < a.2.1 := by omega
    exact ⟨by simp [ltK, rwD, ltF, h1, e1, h2], by simp [ltK, rwD, ltF, h1, e2]; omega⟩
theorem srtD_rows {l : List Rw} (u : UP l) (h : l.length < 64) : srtD (l.map rwD) = some ((srt l).map rwD) := by
  refine srtD_ok ⟨by simpa using h, .inr ⟨3, by decide, fun x hx => ?_⟩⟩ ((srt_perm l).map rwD) ?_
  · obtain ⟨r, _, rfl⟩ := List.mem_map.mp hx; rfl
  · rw [List.pairwise_map]
    exact (srt_bf u).imp fun h => bef_of h
theorem srtL_rows {h : Hh} {n : Nat} {l : List Rw} (e : lstAt h n = some (l.map rwD)) (u : UP l) (hl : l.length < 64) : bltD .sorted [.ref n] h = .ok (.ref h.length) (h ++ [.lst ((srt l).map rwD)]) := by
  show srtL (.ref n) h = _
  unfold srtL
  have e1 : isLst (.ref n) h = true := by rw [isLstR, e]; rfl
  rw [e1, sRef, e]
  simp only [srtD_rows u hl]
theorem mv_place {m : M3} (hm : ok8 m) {a b : Rw} (h : np a b) : np (mv m a) (mv m b) := by
  intro z
  apply h
  obtain ⟨z1, z2⟩ := z
  simp only [mv] at z1 z2
  have e1 : tx m.1 a.1 a.2.1 = tx m.1 b.1 b.2.1 := by omega
  have e2 : ty m.1 a.1 a.2.1 = ty m.1 b.1 b.2.1 := by omega
  have p := t_bk hm.1 hm.2 a.1 a.2.1
  have q := t_bk hm.1 hm.2 b.1 b.2.1
  rw [e1, e2] at p
  exact ⟨p.1.symm.trans q.1, p.2.1.symm.trans q.2.1⟩
theorem UP.mv {m : M3} (hm : ok8 m) {l : List Rw} (u : UP l) : UP (l.map (mv m)) := by
  unfold UP
  rw [List.pairwise_map]
  exact u.imp fun h => mv_place hm h
def led (m : M3) (l : List Rw) : List Rw := srt (l.map (mv m))
theorem led_len (m : M3) (l : List Rw) : (led m l).length = l.length := by unfold led; rw [srt_len, List.length_map]
theorem led_UP {m : M3} (hm : ok8 m) {l : List Rw} (u : UP l) : UP (led m l) := (u.mv hm).perm (srt_perm _).symm
def mn : List Int → Int
  | [] => 0
  | i :: r => minI i r
theorem minI_spec (i : Int) (r : List Int) : minI i r ∈ i :: r ∧ ∀ x ∈ i :: r, minI i r ≤ x := by
    unfold minI
    induction r generalizing i with
    | nil => exact ⟨by simp, by simp⟩
    | cons x r ih =>
      rw [List.foldl_cons]
      by_cases h : x < i
      · rw [if_pos h]
        obtain ⟨a, b⟩ := ih x
        refine ⟨List.mem_cons_of_mem _ a, fun y hy => ?_⟩
        rcases List.mem_cons.mp hy with rfl | hy
        · have := b x List.mem_cons_self; omega
        · exact b y hy
      · rw [if_neg h]
        obtain ⟨a, b⟩ := ih i
        refine ⟨?_, fun y hy => ?_⟩
        · rcases List.mem_cons.mp a with z | z
          · rw [z]; simp
          · exact List.mem_cons_of_mem _ (List.mem_cons_of_mem _ z)
        · rcases List.mem_cons.mp hy with rfl | hy
          · exact b y List.mem_cons_self
          · rcases List.mem_cons.mp hy with rfl | hy
            · have := b i List.mem_cons_self; omega
            · exact b y (List.mem_cons_of_mem _ hy)
theorem mn_spec {l : List Int} (h : l ≠ []) : mn l ∈ l ∧ ∀ x ∈ l, mn l ≤ x := by
  cases l with
  | nil => exact absurd rfl h
  | cons i r => exact minI_spec i r
theorem mn_perm {l l' : List Int} (p : l.Perm l') : mn l = mn l' := by
  by_cases h : l = []
  · subst h; rw [List.nil_perm.mp p]
  · have h' : l' ≠ [] := fun z => h (by subst z; exact List.perm_nil.mp p)
    obtain ⟨a, b⟩ := mn_spec h
    obtain ⟨a', b'⟩ := mn_spec h'
    have x := b _ (p.mem_iff.mpr a')
    have y := b' _ (p.mem_iff.mp a)
    omega
theorem mn_add {l : List Int} (h : l ≠ []) (c : Int) : mn (l.map (· + c)) = mn l + c := by
  obtain ⟨a, b⟩ := mn_spec h
  obtain ⟨a', b'⟩ := mn_spec (l := l.map (· + c)) (by simpa using h)
  obtain ⟨x, hx, e⟩ := List.mem_map.mp a'
  have y := b x hx
  have z := b' (mn l + c) (List.mem_map.mpr ⟨_, a, rfl⟩)
  omega
def cx (t : Int) (l : List Rw) : Int := mn (l.map fun r => tx t r.1 r.2.1)
def cy (t : Int) (l : List Rw) : Int := mn (l.map fun r => ty t r.1 r.2.1)
theorem wd_eq (a b : Bool) : (wd a = wd b) ↔ a = b := by cases a <;> cases b <;> simp [wd] <;> decide
theorem eqD_rows (a b : Rw) : eqD 20 (rwD a) (rwD b) = some (decide (a = b)) := by
  show eqL (eqD 19) _ _ = _
  obtain ⟨x, y, w, n⟩ := a
  obtain ⟨x', y', w', n'⟩ := b
  simp only [eqL1, eqDI, eqDS, eqL0]
  congr 1
  simp only [Prod.mk.injEq, wd_eq, Bool.decide_and, Bool.and_true]
end Ng
end
section
set_option Elab.async false
set_option linter.all false
set_option maxRecDepth 100000
set_option maxHeartbeats 4000000
set_option autoImplicit false
namespace Ng
open PySem L2
theorem atInt {l : List Int} {i : Int} (a : 0 ≤ i) (b : i < l.length) : ∃ v ∈ l, atI (l.map D.int) i = some (.int v) := by
  have hj : i.toNat < l.length := by omega
  have := atI_nat (xs := l.map D.int) (j := i.toNat) (v := .int l[i.toNat]) (by rw [List.getElem?_map, List.getElem?_eq_getElem hj]; rfl)
  rw [Int.toNat_of_nonneg a] at this
  exact ⟨_, List.getElem_mem hj, this⟩

section
variable {G : Gs} {cl : Cl} {W : Nat}
theorem ixDisp {es : Es} {e : E} {l : List Int} {r : Ev} {h : Hh} {i : Int} (he : evs G cl es r h = .ok (l.map D.int) h) (hl : l.length ≤ 1000) (hi : ev G cl e r (h ++ [.lst (l.map D.int)]) = .ok (.int i) (h ++ [.lst (l.map D.int)])) (a : 0 ≤ i) (b : i < l.length) :
    ∃ v ∈ l, ev G cl (.ix (.lst es) e) r h = .ok (.int v) (h ++ [.lst (l.map D.int)]) := by
  obtain ⟨v, hv, e1⟩ := atInt a b
  refine ⟨v, hv, ?_⟩
  rw [evIx, evLst, he, bindOk, if_pos (by rw [List.length_map]; exact hl), bindOk, hi, bindOk, iRef _ _ (lstAt_last _ _), e1]

theorem evIxV {i : Nat} {x y d : D} {e : E} {r : Ev} {h h1 : Hh} (hr : r[i]? = some (some x)) (he : ev G cl e r h = .ok y h1) (hx : ixD x y h1 = .ok d h1) : ev G cl (.ix (.var i) e) r h = .ok d h1 := by
  rw [evIx, evVar, hr]
  show (ev G cl e r h).bind _ = _
  rw [he]
  exact hx

theorem evBin2 {op : Bop} {a b : E} {x y d : D} {r : Ev} {h h1 h2 : Hh} (ha : ev G cl a r h = .ok x h1) (hb : ev G cl b r h1 = .ok y h2) (hd : binD op x y h2 = .ok d h2) : ev G cl (.bin op a b) r h = .ok d h2 := by
  rw [evBin, ha]
  show (ev G cl b r h1).bind _ = _
  rw [hb]
  exact hd

theorem evV {i : Nat} {x : D} {r : Ev} {h : Hh} (hr : r[i]? = some (some x)) : ev G cl (.var i) r h = .ok x h := by
  rw [evVar, hr]

structure Row (h : Hh) (n : Nat) (row : List Int) : Prop where
  at' : lstAt h n = some (row.map D.int)
  inr : InR row

def Row.R (row : List Int) (j : Nat) : Int := row.getD j 0

theorem Row.ix {h h' : Hh} {n : Nat} {row : List Int} (Q : Row h n row) (kp : Kp h h') (j : Nat) (hj : j < row.length) : ixD (.ref n) (.int j) h' = .ok (.int (Row.R row j)) h' := by
  rw [iRef _ _ (kp.lst Q.at'), atI_nat (v := .int (Row.R row j)) (by rw [List.getElem?_map, List.getElem?_eq_getElem hj]; simp [Row.R, hj])]

theorem Row.rng {h : Hh} {n : Nat} {row : List Int} (Q : Row h n row) (j : Nat) (hj : j < row.length) : 0 ≤ Row.R row j ∧ Row.R row j < 1013 := by
  have : Row.R row j = row[j] := by simp [Row.R, hj]
  rw [this]
  exact Q.inr _ (List.getElem_mem hj)

theorem app_ok {h : Hh} {p : Nat} {l : List D} (y : D) (e : h[p]? = some (.lst l)) (hl : l.length < 1000000) : appD (.ref p) y h = .ok .non (h.set p (.lst (l ++ [y]))) := by
  rw [appR, e]
  show (if _ then _ else _) = _
  rw [if_pos hl]

theorem lstAt_of {h : Hh} {p : Nat} {l : List D} (e : h[p]? = some (.lst l)) : lstAt h p = some l := by
  unfold lstAt
  rw [e]
  rfl

theorem evLen {i n : Nat} {l : List D} {r : Ev} {h : Hh} (hr : r[i]? = some (some (.ref n))) (e : lstAt h n = some l) : ev G cl (.blt .len (.cons (.var i) .nil)) r h = .ok (.int l.length) h := by
  simp only [evBlt, evsCons, evsNil, evVar, hr, bindOk, bLen, sRef, e]

theorem xsAsgV {i : Nat} {e : E} {d : D} {r : Ev} {h h' : Hh} (he : ev G cl e r h = .ok d h') : xs G cl W (.asg (.nm i) e) r h = .ok (.nx (r.set i (some d))) h' := by
  rw [xsAsg, he]; rfl

theorem xsIffT {c : E} {a b : Ss} {r : Ev} {h h' : Hh} (hc : ev G cl c r h = .ok (.bl true) h') : xs G cl W (.iff c a b) r h = xss G cl W a r h' := by
  rw [xsIff, hc]; rfl

theorem xsIffF {c : E} {a b : Ss} {r : Ev} {h h' : Hh} (hc : ev G cl c r h = .ok (.bl false) h') : xs G cl W (.iff c a b) r h = xss G cl W b r h' := by
  rw [xsIff, hc]; rfl

theorem evCmp2 {op : Cop} {a b : E} {x y d : D} {r : Ev} {h h1 h2 h3 : Hh} (ha : ev G cl a r h = .ok x h1) (hb : ev G cl b r h1 = .ok y h2) (hd : cmpD op x y h2 = .ok d h3) : ev G cl (.cmp op a b) r h = .ok d h3 := by
  rw [evCmp, ha]
  show (ev G cl b r h1).bind _ = _
  rw [hb]
  exact hd

theorem md {k : Int} (hk : 0 < k) (x : Int) (h : Hh) : binD .mod (.int x) (.int k) h = .ok (.int (x % k)) h := bMod h hk
theorem dv {k : Int} (hk : 0 < k) (hk2 : k < 1073741824) (x : Int) (h : Hh) : binD .fdiv (.int x) (.int k) h = .ok (.int (x / k)) h := bDiv h hk hk2
theorem evC1 {f i : Nat} {x d : D} {r : Ev} {h h' : Hh} (hx : r[i]? = some (some x)) (e : cl f [x] h = .ok d h') : ev G cl (.call f (.cons (.var i) .nil)) r h = .ok d h' := by
  simp only [evCall, evsCons, evsNil, evV hx, bindOk, e, nxOk]
section
variable {α : Type} {t : Tg} {it : Es} {e : E} {N : List Str} {cap : List Nat} {r : Ev} {h h1 : Hh}
end
abbrev ledL : Ss := (.cons (.asg (.tp [7, 8]) (.call 2 (.cons (.var 1) (.cons (.tup (.cons (.var 3) (.cons (.var 4) .nil))) .nil)))) (.cons (.ex (.app (.var 2) (.tup (.cons (.var 7) (.cons (.var 8) (.cons (.var 5) (.cons (.var 6) .nil))))))) .nil))
abbrev ledB : Ss := (.cons (.asg (.nm 2) (.lst .nil)) (.cons (.forr (.tp [3, 4, 5, 6]) (.sq (.var 0)) ledL) (.cons (.ret (.blt .sorted (.cons (.var 2) .nil))) .nil)))
def Mvd (cl : Cl) (f : Nat) : Prop := ∀ (m : M3) (x y : Int) (h : Hh), ok8 m → cl f [mo m, .tup [.int x, .int y]] h = .ok (.tup [.int (tx m.1 x y + m.2.1), .int (ty m.1 x y + m.2.2)]) h
theorem led_ok (hW : 100 ≤ W) (hmv : Mvd cl 2) (a : Nat) (m : M3) (l : List Rw) (h : Hh) (hm : ok8 m) (ha : lstAt h a = some (l.map rwD)) (u : UP l) (hl : l.length < 64) :
    ∃ g k, (xss G cl W ledB [some (.ref a), some (mo m), none, none, none, none, none, none, none] h).bind endD = .ok (.ref k) (h ++ g) ∧ h.length ≤ k ∧ (h ++ g)[k]? = some (.lst ((led m l).map rwD)) := by
  have body : ∀ (x y k : Int) (w : Str) (d7 d8 : Option D) (L : List D), L.length < 1000000 → xss G cl W ledL [some (.ref a), some (mo m), some (.ref h.length), some (.int x), some (.int y), some (.str w), some (.int k), d7, d8] (h ++ [.lst L])
      = .ok (.nx [some (.ref a), some (mo m), some (.ref h.length), some (.int x), some (.int y), some (.str w), some (.int k), some (.int (tx m.1 x y + m.2.1)), some (.int (ty m.1 x y + m.2.2))]) (h ++ [.lst (L ++ [.tup [.int (tx m.1 x y + m.2.1), .int (ty m.1 x y + m.2.2), .str w, .int k]])]) := fun x y k w d7 d8 L hL => by
    have e1 := hmv m x y (h ++ [.lst L]) hm
    generalize tx m.1 x y + m.2.1 = X, ty m.1 x y + m.2.2 = Y at e1 ⊢
    generalize mo m = mm at e1 ⊢
    rw [xssNx (r' := [some (.ref a), some mm, some (.ref h.length), some (.int x), some (.int y), some (.str w), some (.int k), some (.int X), some (.int Y)]) (h' := h ++ [.lst L]) (by
        simp only [xsAsg, evCall, evsCons, evsNil, evVar, evTup, List.getElem?_cons_succ, ge0, bindOk, List.length_cons, List.length_nil, Nat.reduceAdd, Nat.reduceLeDiff, if_true, e1, nxOk]; rfl),
      xssNx (r' := [some (.ref a), some mm, some (.ref h.length), some (.int x), some (.int y), some (.str w), some (.int k), some (.int X), some (.int Y)]) (h' := h ++ [.lst (L ++ [.tup [.int X, .int Y, .str w, .int k]])]) (by
        simp only [xsEx, evApp, evTup, evsCons, evsNil, evVar, List.getElem?_cons_succ, ge0, bindOk, isLstR, lstAt_last, Option.isSome_some, if_true, List.length_cons, List.length_nil, Nat.reduceAdd, Nat.reduceLeDiff, appR, get_last, hL, if_pos, set_last, nxOk]), xssNil]
  have loop := forI_gen (t := .tp [3, 4, 5, 6]) (body := xss G cl W ledL) (n := a) (l := l.map rwD) (fun i r hh => (∃ d3 d4 d5 d6 d7 d8, r = [some (.ref a), some (mo m), some (.ref h.length), d3, d4, d5, d6, d7, d8]) ∧ hh = h ++ [.lst (((l.take i).map (mv m)).map rwD)]) (fun _ _ => False)
    (fun i r hh ⟨_, e⟩ => by rw [e]; exact lstAt_app _ _ ha)
    (fun i d ed r hh ⟨⟨d3, d4, d5, d6, d7, d8, er⟩, eh⟩ => by
      subst er eh
      rw [List.getElem?_map, Option.map_eq_some_iff] at ed
      obtain ⟨⟨x, y, w, k⟩, e2, rfl⟩ := ed
      have hi : i < l.length := (List.getElem?_eq_some_iff.mp e2).1
      refine ⟨_, rfl, .inl ⟨_, _, body x y k (wd w) d7 d8 _ (by simp; omega), ⟨_, _, _, _, _, _, rfl⟩, ?_⟩⟩
      rw [show l.take (i + 1) = l.take i ++ [(x, y, w, k)] from by rw [List.take_succ, e2]; rfl, List.map_append, List.map_append]
      rfl) W 0 [some (.ref a), some (mo m), some (.ref h.length), none, none, none, none, none, none] (h ++ [.lst []]) ⟨⟨_, _, _, _, _, _, rfl⟩, by simp⟩ (Nat.zero_le _) (by simp; omega)
  rcases loop with ⟨r', h', e3, ⟨⟨d3, d4, d5, d6, d7, d8, er⟩, eh⟩⟩ | ⟨_, _, _, z⟩
  · subst er eh
    rw [List.length_map, List.take_length] at e3
    have es := srtL_rows (h := h ++ [.lst ((l.map (mv m)).map rwD)]) (n := h.length) (l := l.map (mv m)) (lstAt_last _ _) (u.mv hm) (by simpa using hl)
    refine ⟨[.lst ((l.map (mv m)).map rwD)] ++ [.lst ((led m l).map rwD)], (h ++ [O.lst ((l.map (mv m)).map rwD)]).length, ?_, by simp, by rw [← List.append_assoc, get_last]⟩
    rw [← List.append_assoc]
    rw [xssNx (r' := [some (.ref a), some (mo m), some (.ref h.length), none, none, none, none, none, none]) (h' := h ++ [.lst []]) (xsAsgV (by simp only [evLst, evsNil, bindOk, List.length_nil, Nat.zero_le, if_true])),
      xssNx (r' := [some (.ref a), some (mo m), some (.ref h.length), d3, d4, d5, d6, d7, d8]) (h' := h ++ [.lst ((l.map (mv m)).map rwD)]) (by
        rw [xsForS, evV (x := .ref a) rfl]
        exact e3),
      xssRt (d := .ref (h ++ [O.lst ((l.map (mv m)).map rwD)]).length) (h' := (h ++ [.lst ((l.map (mv m)).map rwD)]) ++ [.lst ((led m l).map rwD)]) (by
        simp only [xsRet, evBlt, evsCons, evsNil, evVar, List.getElem?_cons_succ, ge0, bindOk, es, nxOk]; rfl)]
    rfl
  · exact z.elim
abbrev crB : Ss := (.cons (.ret (.tup (.cons (.blt .min (.cons (.comp (.tp [0, 1]) .sq (.cons (.var 0) .nil) .nil (.var 0) ["x", "y"] []) .nil)) (.cons (.blt .min (.cons (.comp (.tp [0, 1]) .sq (.cons (.var 0) .nil) .nil (.var 1) ["x", "y"] []) .nil)) .nil)))) .nil)
theorem mnB {h : Hh} {n : Nat} {L : List Int} (hL : L ≠ []) (e : lstAt h n = some (L.map D.int)) : bltD .min [.ref n] h = .ok (.int (mn L)) h := by
  cases L with
  | nil => exact absurd rfl hL
  | cons i r => exact bestL_ok false e
theorem cr_ok (a : Nat) (ps : List (Int × Int)) (h : Hh) (ha : lstAt h a = some (ps.map pl)) (h0 : ps ≠ []) (hl : ps.length ≤ 1000) : ∃ g, (xss G cl W crB [some (.ref a)] h).bind endD = .ok (.tup [.int (mn (ps.map (·.1))), .int (mn (ps.map (·.2)))]) (h ++ g) := by
  obtain ⟨g1, e1⟩ := evC_map (G := G) (cl := cl) (t := .tp [0, 1]) (it := .cons (.var 0) .nil) (e := .var 0) (N := ["x", "y"]) (cap := []) (r := [some (.ref a)]) (h := h) (h1 := h) (l := ps) pl (fun r => ∃ a b, r = [a, b]) (fun p => .int p.1) (by simp) ha hl ⟨_, _, rfl⟩
    (by rintro p _ r h ⟨a, b, rfl⟩; exact ⟨_, rfl, ⟨_, _, rfl⟩, by simp⟩)
  have x1 : lstAt (h ++ O.lst (ps.map fun p => .int p.1) :: g1) a = some (ps.map pl) := lstAt_app _ _ ha
  have m1 := mnB (L := ps.map (·.1)) (by simpa using h0) (show lstAt (h ++ O.lst (ps.map fun p => .int p.1) :: g1) h.length = _ by rw [lstAt_mid, List.map_map]; rfl)
  generalize hH1 : h ++ O.lst (ps.map fun p : Int × Int => D.int p.1) :: g1 = H1 at e1 x1 m1
  obtain ⟨g2, e2⟩ := evC_map (G := G) (cl := cl) (t := .tp [0, 1]) (it := .cons (.var 0) .nil) (e := .var 1) (N := ["x", "y"]) (cap := []) (r := [some (.ref a)]) (h := H1) (h1 := H1) (l := ps) pl (fun r => ∃ a b, r = [a, b]) (fun p => .int p.2) (by simp) x1 hl ⟨_, _, rfl⟩
    (by rintro p _ r h ⟨a, b, rfl⟩; exact ⟨_, rfl, ⟨_, _, rfl⟩, by simp⟩)
  have m2 := mnB (L := ps.map (·.2)) (by simpa using h0) (show lstAt (H1 ++ O.lst (ps.map fun p => .int p.2) :: g2) H1.length = _ by rw [lstAt_mid, List.map_map]; rfl)
  refine ⟨(O.lst (ps.map fun p : Int × Int => D.int p.1) :: g1) ++ (O.lst (ps.map fun p => .int p.2) :: g2), ?_⟩
  rw [← List.append_assoc, hH1]
  rw [xssRt (d := .tup [.int (mn (ps.map (·.1))), .int (mn (ps.map (·.2)))]) (h' := H1 ++ O.lst (ps.map fun p => .int p.2) :: g2) (by
    simp only [xsRet, evTup, evsCons, evsNil, evBlt, e1, e2, m1, m2, bindOk, List.length_cons, List.length_nil, Nat.reduceAdd, Nat.reduceLeDiff, if_true, nxOk])]
  rfl
end
end Ng
end
section
set_option Elab.async false
set_option linter.all false
set_option maxRecDepth 100000
set_option maxHeartbeats 4000000
set_option autoImplicit false
namespace Ng
open PySem L2
section
variable {G : Gs} {cl : Cl} {W : Nat}
def Trn (cl : Cl) (f : Nat) : Prop := ∀ (t x y : Int) (h : Hh), 0 ≤ t → t < 8 → cl f [.int t, .tup [.int x, .int y]] h = .ok (.tup [.int (tx t x y), .int (ty t x y)]) h
def Beh (cl : Cl) (f : Nat) : Prop := ∀ (a b : M3) (h : Hh), ok8 a → ok8 b → cl f [mo a, mo b] h = .ok (mo (bh a b)) h
def Ldg (cl : Cl) (f : Nat) : Prop := ∀ (t x y a b : Int) (h : Hh), 0 ≤ t → t < 8 → cl f [.int t, .tup [.int x, .int y], .tup [.int a, .int b]] h = .ok (.tup [.int t, .int (a - tx t x y), .int (b - ty t x y)]) h
def Cor (cl : Cl) (f : Nat) : Prop := ∀ (a : Nat) (ps : List (Int × Int)) (h : Hh), lstAt h a = some (ps.map pl) → ps ≠ [] → ps.length ≤ 1000 → ∃ g, cl f [.ref a] h = .ok (.tup [.int (mn (ps.map (·.1))), .int (mn (ps.map (·.2)))]) (h ++ g)
def Cng (cl : Cl) (f : Nat) : Prop := ∀ (a : Nat) (t gx gy : Int) (l : List Rw) (h : Hh), lstAt h a = some (l.map rwD) → l ≠ [] → l.length < 64 → 0 ≤ t → t < 8 → ∃ g, cl f [.int t, .ref a, .tup [.int gx, .int gy]] h = .ok (mo (t, gx - cx t l, gy - cy t l)) (h ++ g)
def Cgs (cl : Cl) (f : Nat) : Prop := ∀ (a : Nat) (gx gy : Int) (l : List Rw) (h : Hh), lstAt h a = some (l.map rwD) → l ≠ [] → l.length < 64 → ∃ g, cl f [.ref a, .tup [.int gx, .int gy]] h = .ok (.ref h.length) (h ++ O.lst ((List.range 8).map fun t : Nat => mo ((t : Int), gx - cx t l, gy - cy t l)) :: g)
def Led (cl : Cl) (f : Nat) : Prop := ∀ (a : Nat) (m : M3) (l : List Rw) (h : Hh), ok8 m → lstAt h a = some (l.map rwD) → UP l → l.length < 64 → ∃ g k, cl f [.ref a, mo m] h = .ok (.ref k) (h ++ g) ∧ h.length ≤ k ∧ (h ++ g)[k]? = some (.lst ((led m l).map rwD))
def Lmv (cl : Cl) (f : Nat) : Prop := ∀ (m : M3) (x y : Int) (h : Hh), ok8 m → ∃ g, cl f [mo m, .tup [.int x, .int y]] h = .ok (.tup [.int (tx m.1 x y + m.2.1), .int (ty m.1 x y + m.2.2)]) (h ++ g)
abbrev cgC : E := (.comp (.tp [0, 1, 2, 3]) .sq (.cons (.var 1) .nil) .nil (.call 0 (.cons (.var 4) (.cons (.tup (.cons (.var 0) (.cons (.var 1) .nil))) .nil))) ["x", "y", "word", "number", "turn"] [0])
abbrev cgB : Ss := (.cons (.asg (.nm 3) (.call 6 (.cons cgC .nil))) (.cons (.ret (.call 4 (.cons (.tup (.cons (.var 0) (.cons (.int 0) (.cons (.int 0) .nil)))) (.cons (.call 3 (.cons (.int 0) (.cons (.var 3) (.cons (.var 2) .nil)))) .nil)))) .nil))
theorem bh0 {t : Int} (h0 : 0 ≤ t) (h1 : t < 8) (p q : Int) : bh (t, 0, 0) (0, p, q) = (t, p, q) := by
  obtain ⟨i, rfl⟩ := fin8 h0 h1
  have := (tbhB i).2.2.2
  simp only [bh, this]
  rw [(t_0 0 0).1, (t_0 0 0).2, Int.zero_add, Int.zero_add]
theorem cg_ok (ht : Trn cl 0) (hb : Beh cl 4) (hl3 : Ldg cl 3) (hc : Cor cl 6) (a : Nat) (t gx gy : Int) (l : List Rw) (h : Hh) (ha : lstAt h a = some (l.map rwD)) (hn : l ≠ []) (hl : l.length < 64) (h0 : 0 ≤ t) (h1 : t < 8) :
    ∃ g, (xss G cl W cgB [some (.int t), some (.ref a), some (.tup [.int gx, .int gy]), none] h).bind endD = .ok (mo (t, gx - cx t l, gy - cy t l)) (h ++ g) := by
  obtain ⟨g1, e1⟩ := evC_map (G := G) (cl := cl) (t := .tp [0, 1, 2, 3]) (it := .cons (.var 1) .nil) (e := .call 0 (.cons (.var 4) (.cons (.tup (.cons (.var 0) (.cons (.var 1) .nil))) .nil))) (N := ["x", "y", "word", "number", "turn"]) (cap := [0]) (r := [some (.int t), some (.ref a), some (.tup [.int gx, .int gy]), none]) (h := h) (h1 := h) (l := l) rwD (fun r => ∃ a b c d, r = [a, b, c, d, some (.int t)]) (fun r => pl (tx t r.1 r.2.1, ty t r.1 r.2.1)) (by simp) ha (by omega) ⟨_, _, _, _, rfl⟩
    (by
      rintro ⟨x, y, w, k⟩ _ r h ⟨a, b, c, d, rfl⟩
      refine ⟨_, rfl, ⟨_, _, _, _, rfl⟩, ?_⟩
      have e := ht t x y h h0 h1
      simp only [evCall, evsCons, evsNil, evTup, evVar, List.getElem?_cons_succ, ge0, bindOk, List.length_cons, List.length_nil, Nat.reduceAdd, Nat.reduceLeDiff, if_true, setAll1, setAll0, List.set_cons_succ, List.set_cons_zero, e, nxOk]
      rfl)
  have x1 : lstAt (h ++ O.lst (l.map fun r => pl (tx t r.1 r.2.1, ty t r.1 r.2.1)) :: g1) h.length = some ((l.map fun r => (tx t r.1 r.2.1, ty t r.1 r.2.1)).map pl) := by rw [lstAt_mid, List.map_map]; rfl
  obtain ⟨g2, e2⟩ := hc h.length _ _ x1 (by simpa using hn) (by rw [List.length_map]; omega)
  rw [List.map_map, List.map_map] at e2
  have e2' : cl 6 [.ref h.length] (h ++ O.lst (l.map fun r => pl (tx t r.1 r.2.1, ty t r.1 r.2.1)) :: g1) = .ok (.tup [.int (cx t l), .int (cy t l)]) ((h ++ O.lst (l.map fun r => pl (tx t r.1 r.2.1, ty t r.1 r.2.1)) :: g1) ++ g2) := e2
  refine ⟨(O.lst (l.map fun r => pl (tx t r.1 r.2.1, ty t r.1 r.2.1)) :: g1) ++ g2, ?_⟩
  rw [← List.append_assoc]
  generalize h ++ O.lst (l.map fun r => pl (tx t r.1 r.2.1, ty t r.1 r.2.1)) :: g1 = H1 at e1 e2'
  have e3 := hl3 0 (cx t l) (cy t l) gx gy (H1 ++ g2) (by omega) (by omega)
  rw [(t_0 _ _).1, (t_0 _ _).2] at e3
  have e4 := hb (t, 0, 0) (0, gx - cx t l, gy - cy t l) (H1 ++ g2) ⟨h0, h1⟩ ⟨by show (0 : Int) ≤ 0; omega, by show (0 : Int) < 8; omega⟩
  rw [bh0 h0 h1] at e4
  have e4' : cl 4 [.tup [.int t, .int 0, .int 0], .tup [.int 0, .int (gx - cx t l), .int (gy - cy t l)]] (H1 ++ g2) = .ok (mo (t, gx - cx t l, gy - cy t l)) (H1 ++ g2) := e4
  rw [xssNx (r' := [some (.int t), some (.ref a), some (.tup [.int gx, .int gy]), some (.tup [.int (cx t l), .int (cy t l)])]) (h' := H1 ++ g2) (xsAsgV (by simp only [evCall, evsCons, evsNil, e1, bindOk, e2', nxOk])),
    xssRt (d := mo (t, gx - cx t l, gy - cy t l)) (h' := H1 ++ g2) (by
      simp only [xsRet, evCall, evsCons, evsNil, evTup, evVar, evInt, List.getElem?_cons_succ, ge0, bindOk, List.length_cons, List.length_nil, Nat.reduceAdd, Nat.reduceLeDiff, if_true, e3, e4', nxOk])]
  rfl
abbrev csB : Ss := (.cons (.ret (.comp (.nm 0) .r1 (.cons (.blt .len (.cons (.gc 1) .nil)) .nil) .nil (.call 7 (.cons (.var 0) (.cons (.var 1) (.cons (.var 2) .nil)))) ["turn", "rows", "goal"] [0, 1])) .nil)
theorem cs_ok (hc : Cng cl 7) (hT : ∀ r h, ev G cl (.blt .len (.cons (.gc 1) .nil)) r h = .ok (.int 8) h) (a : Nat) (gx gy : Int) (l : List Rw) (h : Hh) (ha : lstAt h a = some (l.map rwD)) (hn : l ≠ []) (hl : l.length < 64) :
    ∃ g, (xss G cl W csB [some (.ref a), some (.tup [.int gx, .int gy])] h).bind endD = .ok (.ref h.length) (h ++ O.lst ((List.range 8).map fun t : Nat => mo ((t : Int), gx - cx t l, gy - cy t l)) :: g) := by
  obtain ⟨gb, e⟩ := evC_r1 (G := G) (cl := cl) (t := .nm 0) (it := .cons (.blt .len (.cons (.gc 1) .nil)) .nil) (cs := .nil) (e := .call 7 (.cons (.var 0) (.cons (.var 1) (.cons (.var 2) .nil)))) (N := ["turn", "rows", "goal"]) (cap := [0, 1]) (r := [some (.ref a), some (.tup [.int gx, .int gy])]) (h := h) (h1 := h) (j := 8) (fun r => ∃ d, r = [d, some (.ref a), some (.tup [.int gx, .int gy])]) (fun _ => true) (fun t : Nat => mo ((t : Int), gx - cx t l, gy - cy t l))
    (by simp only [evsCons, evsNil, hT, bindOk]; rfl) (by decide) ⟨_, rfl⟩
    (fun t ht => ⟨fun r ys gb ⟨d, er⟩ => by
      subst er
      rw [List.mem_range] at ht
      obtain ⟨g2, e2⟩ := hc a (t : Int) gx gy l (h ++ .lst ys :: gb) (lstAt_app _ _ ha) hn hl (by omega) (by omega)
      refine ⟨_, [], rfl, by rw [evtNil, List.append_nil], ⟨_, rfl⟩, fun _ => ⟨g2, ?_⟩⟩
      rw [List.append_nil]
      simp only [evCall, evsCons, evsNil, evVar, List.getElem?_cons_succ, ge0, bindOk, List.set_cons_zero, e2, nxOk]
      simp⟩)
  rw [List.filter_eq_self.mpr (fun _ _ => rfl)] at e
  refine ⟨gb, ?_⟩
  rw [xssRt (d := .ref h.length) (by rw [xsRet, e]; rfl)]
  rfl
abbrev rlB : Ss := (.cons (.ret (.blt .sorted (.cons (.comp (.nm 0) .sq (.cons (.var 0) .nil) .nil (.bin .add (.call 13 (.cons (.var 1) (.cons (.tup (.cons (.ix (.var 0) (.int 0)) (.cons (.ix (.var 0) (.int 1)) .nil))) .nil))) (.tup (.cons (.ix (.var 0) (.int 2)) (.cons (.ix (.var 0) (.int 3)) .nil)))) ["_law_row", "_law_motion_here"] [1]) .nil))) .nil)
theorem rw0 (r : Rw) (h : Hh) : ixD (rwD r) (.int 0) h = .ok (.int r.1) h := rfl
theorem rw1 (r : Rw) (h : Hh) : ixD (rwD r) (.int 1) h = .ok (.int r.2.1) h := rfl
theorem rw2 (r : Rw) (h : Hh) : ixD (rwD r) (.int 2) h = .ok (.str (wd r.2.2.1)) h := rfl
theorem rw3 (r : Rw) (h : Hh) : ixD (rwD r) (.int 3) h = .ok (.int r.2.2.2) h := rfl
theorem rl_ok (hv : Lmv cl 13) (a : Nat) (m : M3) (l : List Rw) (h : Hh) (hm : ok8 m) (ha : lstAt h a = some (l.map rwD)) (u : UP l) (hl : l.length < 64) :
    ∃ g k, (xss G cl W rlB [some (.ref a), some (mo m)] h).bind endD = .ok (.ref k) (h ++ g) ∧ h.length ≤ k ∧ (h ++ g)[k]? = some (.lst ((led m l).map rwD)) := by
  obtain ⟨gb, e⟩ := evC_lst (G := G) (cl := cl) (t := .nm 0) (it := .cons (.var 0) .nil) (cs := .nil) (e := (.bin .add (.call 13 (.cons (.var 1) (.cons (.tup (.cons (.ix (.var 0) (.int 0)) (.cons (.ix (.var 0) (.int 1)) .nil))) .nil))) (.tup (.cons (.ix (.var 0) (.int 2)) (.cons (.ix (.var 0) (.int 3)) .nil))))) (N := ["_law_row", "_law_motion_here"]) (cap := [1]) (r := [some (.ref a), some (mo m)]) (h := h) (h1 := h) (l := l) rwD (fun r => ∃ d, r = [d, some (mo m)]) (fun _ => true) (fun r => rwD (mv m r))
    (by simp) ha (by omega) ⟨_, rfl⟩
    (fun x _ => ⟨fun r ys gb ⟨d, er⟩ => by
      subst er
      obtain ⟨g2, e2⟩ := hv m x.1 x.2.1 (h ++ .lst ys :: gb) hm
      refine ⟨_, [], rfl, by rw [evtNil, List.append_nil], ⟨_, rfl⟩, fun _ => ⟨g2, ?_⟩⟩
      rw [List.append_nil]
      simp only [evBin, evCall, evsCons, evsNil, evTup, evIx, evVar, evInt, List.getElem?_cons_succ, ge0, bindOk, List.set_cons_zero, rw0, rw1, rw2, rw3, List.length_cons, List.length_nil, Nat.reduceAdd, Nat.reduceLeDiff, if_true, e2, nxOk]
      rw [show h ++ .lst ys :: (gb ++ g2) = (h ++ .lst ys :: gb) ++ g2 by simp]
      rfl⟩)
  rw [List.filter_eq_self.mpr (fun _ _ => rfl)] at e
  have x1 : lstAt (h ++ O.lst (l.map fun r => rwD (mv m r)) :: gb) h.length = some ((l.map (mv m)).map rwD) := by rw [lstAt_mid, List.map_map]; rfl
  have k1 : Kp h (h ++ O.lst (l.map fun r => rwD (mv m r)) :: gb) := Kp.app _ _
  generalize hH : h ++ O.lst (l.map fun r => rwD (mv m r)) :: gb = H1 at e x1 k1
  have es := srtL_rows x1 (u.mv hm) (by simpa using hl)
  refine ⟨(O.lst (l.map fun r => rwD (mv m r)) :: gb) ++ [.lst ((led m l).map rwD)], H1.length, ?_, k1.len, by rw [← List.append_assoc, hH, get_last]⟩
  rw [← List.append_assoc, hH]
  rw [xssRt (d := .ref H1.length) (h' := H1 ++ [.lst ((led m l).map rwD)]) (by simp only [xsRet, evBlt, evsCons, evsNil, e, bindOk, es, nxOk]; rfl)]
  rfl
end
end Ng
end
section
set_option Elab.async false
set_option linter.all false
set_option maxRecDepth 100000
set_option maxHeartbeats 4000000
set_option autoImplicit false
namespace Ng
open PySem L2
def sy (b : Bool) (k : Int) : D := .tup [.str (wd b), .int k]
def enc (r : Rw) : List Int × D := ([r.1, r.2.1], sy r.2.2.1 r.2.2.2)
theorem UP.map_at {x y : Int} {z : Bool × Int} {q : List Rw} (u : UP q) : UP (q.map fun r => if r.1 = x ∧ r.2.1 = y then ((x, y, z) : Rw) else r) := by
  unfold UP
  rw [List.pairwise_map]
  refine u.imp fun {a b} h => ?_
  unfold np at h ⊢
  by_cases ha : a.1 = x ∧ a.2.1 = y
  · by_cases hb : b.1 = x ∧ b.2.1 = y
    · exact absurd ⟨ha.1.trans hb.1.symm, ha.2.trans hb.2.symm⟩ h
    · rw [if_pos ha, if_neg hb]
      exact fun z => hb ⟨z.1.symm, z.2.symm⟩
  · by_cases hb : b.1 = x ∧ b.2.1 = y
    · rw [if_neg ha, if_pos hb]; exact fun z => ha z
    · rw [if_neg ha, if_neg hb]; exact h
def N3 (x y : Int) : Prop := -3 ≤ x ∧ x ≤ 3 ∧ -3 ≤ y ∧ y ≤ 3
def Nr (q : List Rw) : Prop := ∀ r ∈ q, N3 r.1 r.2.1
theorem N3.turn {t x y : Int} (h : N3 x y) : N3 (tx t x y) (ty t x y) := by
  unfold N3 at h ⊢
  unfold tx ty
  repeat' split
  all_goals omega
theorem key_eq (r : Rw) (x y : Int) : ([r.1, r.2.1] = [x, y]) ↔ (r.1 = x ∧ r.2.1 = y) := by simp
theorem putT_rows {q : List Rw} (u : UP q) (x y : Int) (b : Bool) (k : Int) : ∃ q', putT (q.map enc) [x, y] (sy b k) = q'.map enc ∧ UP q' ∧ q' ≠ [] ∧ q'.length ≤ q.length + 1 ∧ (Nr q → N3 x y → Nr q') := by
  unfold putT
  by_cases h : (q.map enc).any (fun kv => decide (kv.1 = [x, y])) = true
  · rw [if_pos h]
    refine ⟨q.map fun r => if r.1 = x ∧ r.2.1 = y then (x, y, b, k) else r, ?_, u.map_at, fun z => ?_, by simp, fun hq hx r hr => ?_⟩
    · rw [List.map_map, List.map_map]
      refine List.map_congr_left fun r _ => ?_
      show (if [r.1, r.2.1] = [x, y] then (([r.1, r.2.1], sy b k) : List Int × D) else enc r) = enc (if r.1 = x ∧ r.2.1 = y then (x, y, b, k) else r)
      by_cases e : r.1 = x ∧ r.2.1 = y
      · rw [if_pos e, if_pos ((key_eq r x y).mpr e)]
        show ([r.1, r.2.1], sy b k) = ([x, y], sy b k)
        rw [e.1, e.2]
      · rw [if_neg e, if_neg (fun z => e ((key_eq r x y).mp z))]
    · have : q = [] := by simpa using z
      subst this
      simp at h
    · obtain ⟨r', hr', rfl⟩ := List.mem_map.mp hr
      by_cases e : r'.1 = x ∧ r'.2.1 = y
      · rw [if_pos e]; exact hx
      · rw [if_neg e]; exact hq r' hr'
  · rw [if_neg h]
    refine ⟨q ++ [(x, y, b, k)], by simp [enc], ?_, by simp, by simp, fun hq hx r hr => ?_⟩
    rotate_left
    · rcases List.mem_append.mp hr with hr | hr
      · exact hq r hr
      · have : r = (x, y, b, k) := by simpa using hr
        subst this; exact hx
    unfold UP
    rw [List.pairwise_append]
    refine ⟨u, by simp, fun a ha c hc => ?_⟩
    have : c = (x, y, b, k) := by simpa using hc
    subst this
    intro z
    apply h
    rw [List.any_eq_true]
    exact ⟨enc a, List.mem_map.mpr ⟨a, ha, rfl⟩, by simpa [enc] using z⟩
theorem stx_rows {h : Hh} {f : Nat} {q : List Rw} (x y : Int) (z : D) (e : h[f]? = some (.dtt (q.map enc))) (hl : q.length < 1000) : stxD (.ref f) (.tup [.int x, .int y]) z h = .ok () (h.set f (.dtt (putT (q.map enc) [x, y] z))) := by
  simp only [stxD, e, dputT, intsD, Option.map_some, List.length_map, hl, if_true]
section
variable {G : Gs} {cl : Cl} {W : Nat}
abbrev syB : Ss := (.cons (.iff (.cmp .eq (.bin .mod (.var 0) (.int 19)) (.int 0)) (.cons (.ret (.tup (.cons (.str "unseen") (.cons (.int 0) .nil)))) .nil) .nil) (.cons (.iff (.cmp .lt (.bin .mod (.var 0) (.int 19)) (.int 10)) (.cons (.ret (.tup (.cons (.str "star") (.cons (.bin .mod (.var 0) (.int 19)) .nil)))) .nil) .nil) (.cons (.ret (.tup (.cons (.str "under") (.cons (.bin .sub (.bin .mod (.var 0) (.int 19)) (.int 9)) .nil)))) .nil)))
theorem sy_ok (v : Int) (hv : v % 19 ≠ 0) (h : Hh) : ∃ b k, (xss G cl W syB [some (.int v)] h).bind endD = .ok (sy b k) h := by
  have em : ∀ r : Ev, r[0]? = some (some (.int v)) → ev G cl (.bin .mod (.var 0) (.int 19)) r h = .ok (.int (v % 19)) h := fun r hr => evBin2 (evV hr) (evInt ..) (md (by decide) v h)
  have c1 : ev G cl (.cmp .eq (.bin .mod (.var 0) (.int 19)) (.int 0)) [some (.int v)] h = .ok (.bl false) h := evCmp2 (em _ rfl) (evInt ..) (by rw [cEqI, decide_eq_false hv])
  by_cases h2 : v % 19 < 10
  · refine ⟨false, v % 19, ?_⟩
    have c2 : ev G cl (.cmp .lt (.bin .mod (.var 0) (.int 19)) (.int 10)) [some (.int v)] h = .ok (.bl true) h := evCmp2 (em _ rfl) (evInt ..) (by rw [cLt, decide_eq_true h2])
    rw [xssNx (r' := [some (.int v)]) (h' := h) (by rw [xsIffF c1, xssNil]), xssRt (d := sy false (v % 19)) (h' := h) (by
      rw [xsIffT c2]
      exact xssRt (by simp only [xsRet, evTup, evsCons, evsNil, evStr, em [some (.int v)] rfl, bindOk, List.length_cons, List.length_nil, Nat.reduceAdd, Nat.reduceLeDiff, if_true, nxOk]; rfl))]
    rfl
  · refine ⟨true, v % 19 - 9, ?_⟩
    have c2 : ev G cl (.cmp .lt (.bin .mod (.var 0) (.int 19)) (.int 10)) [some (.int v)] h = .ok (.bl false) h := evCmp2 (em _ rfl) (evInt ..) (by rw [cLt, decide_eq_false h2])
    rw [xssNx (r' := [some (.int v)]) (h' := h) (by rw [xsIffF c1, xssNil]), xssNx (r' := [some (.int v)]) (h' := h) (by rw [xsIffF c2, xssNil]), xssRt (d := sy true (v % 19 - 9)) (h' := h) (by
      have e3 : ev G cl (.bin .sub (.bin .mod (.var 0) (.int 19)) (.int 9)) [some (.int v)] h = .ok (.int (v % 19 - 9)) h := evBin2 (em _ rfl) (evInt ..) (bSub ..)
      simp only [xsRet, evTup, evsCons, evsNil, evStr, e3, bindOk, List.length_cons, List.length_nil, Nat.reduceAdd, Nat.reduceLeDiff, if_true, nxOk]; rfl)]
    rfl
def Drs (cl : Cl) (f : Nat) (ns : List Int) : Prop := ∀ (at' : Int) (M : Nat) (h : Hh), M ≤ 1000 → 0 ≤ at' → at' < 100000 → lstAt h 0 = some (ns.map D.int) → ∃ row : List Int, row.length = M ∧ InR row ∧ cl f [.ref 0, .int at', .int M] h = .ok (.ref h.length) (h ++ [.lst (row.map D.int)])
def Say (cl : Cl) (f : Nat) : Prop := ∀ (v : Int) (h : Hh), v % 19 ≠ 0 → ∃ b k, cl f [.int v] h = .ok (sy b k) h
def Ltn (cl : Cl) (f : Nat) : Prop := ∀ (t x y : Int) (h : Hh), 0 ≤ t → t < 8 → ∃ g, cl f [.int t, .int x, .int y] h = .ok (.tup [.int (tx t x y), .int (ty t x y)]) (h ++ g)
abbrev roT : S := .iff (.cmp .eq (.bin .mod (.ix (.var 1) (.int 1)) (.int 3)) (.int 1)) (.cons (.stx (.var 2) (.call 12 (.cons (.bin .mod (.bin .fdiv (.ix (.var 1) (.int 1)) (.int 3)) (.int 8)) (.cons (.ix (.var 5) (.int 0)) (.cons (.ix (.var 5) (.int 1)) .nil)))) (.var 6)) .nil) .nil
abbrev roS : S := .iff (.cmp .eq (.bin .mod (.bin .fdiv (.ix (.var 1) (.int 0)) (.int 8)) (.int 2)) (.int 1)) (.cons (.asg (.nm 6) (.call 16 (.cons (.ix (.lst (.cons (.int 2) (.cons (.int 11) .nil))) (.bin .mod (.ix (.var 4) (.int 2)) (.int 2))) .nil))) .nil) .nil
abbrev roL : Ss := (.cons (.asg (.nm 4) (.call 10 (.cons (.var 0) (.cons (.var 3) (.cons (.int 4) .nil))))) (.cons (.asg (.nm 5) (.tup (.cons (.bin .sub (.bin .mod (.ix (.var 4) (.int 0)) (.int 7)) (.int 3)) (.cons (.bin .sub (.bin .mod (.ix (.var 4) (.int 1)) (.int 7)) (.int 3)) .nil)))) (.cons (.asg (.nm 6) (.call 16 (.cons (.bin .add (.int 1) (.bin .mod (.ix (.var 4) (.int 2)) (.int 18))) .nil))) (.cons roS (.cons (.stx (.var 2) (.var 5) (.var 6)) (.cons roT .nil))))))
abbrev roC : E := (.comp (.tp [0, 1]) .its (.cons (.var 2) .nil) .nil (.bin .add (.var 0) (.var 1)) ["_law_place", "_law_saying_here"] [])
abbrev roB : Ss := (.cons (.asg (.nm 1) (.call 10 (.cons (.var 0) (.cons (.int 18) (.cons (.int 3) .nil))))) (.cons (.asg (.nm 2) .dnt) (.cons (.forr (.nm 3) (.r1 (.bin .add (.int 1) (.bin .mod (.ix (.var 1) (.int 0)) (.int 8)))) roL) (.cons (.ret (.blt .sorted (.cons roC .nil))) .nil))))
def roI (h0 : Hh) (d f : Nat) (i : Nat) (r : Ev) (h : Hh) : Prop := Kp h0 h ∧ (∃ d3 d4 d5 d6, r = [some (.ref 0), some (.ref d), some (.ref f), d3, d4, d5, d6]) ∧ ∃ q : List Rw, h[f]? = some (.dtt (q.map enc)) ∧ UP q ∧ q.length ≤ 2 * i ∧ (0 < i → q ≠ []) ∧ Nr q
theorem ro_turn {ns : List Int} (hd : Drs cl 10 ns) (hs : Say cl 16) (ht : Ltn cl 12) {h0 : Hh} (h00 : lstAt h0 0 = some (ns.map D.int)) {d f : Nat} {row : List Int} (Q : Row h0 d row) (h3 : row.length = 3) (hf : h0.length ≤ f) (i : Nat) (hi : i < 100) (r : Ev) (h : Hh) (I : roI h0 d f i r h) :
    ∃ r1 r2 h2, setT (.nm 3) (.int i) r = some r1 ∧ xss G cl W roL r1 h = .ok (.nx r2) h2 ∧ roI h0 d f (i + 1) r2 h2 := by
  obtain ⟨kp, ⟨d3, d4, d5, d6, rfl⟩, q, hq, u, hl, hn, hN⟩ := I
  obtain ⟨er, e1, e2, e3⟩ := hd (i : Int) 4 h (by decide) (by omega) (by omega) (kp.lst h00)
  have e3' : cl 10 [.ref 0, .int i, .int 4] h = .ok (.ref h.length) (h ++ [.lst (er.map D.int)]) := e3
  have kA : Kp h (h ++ [.lst (er.map D.int)]) := Kp.app _ _
  have QE : Row (h ++ [.lst (er.map D.int)]) h.length er := ⟨lstAt_last _ _, e2⟩
  have lf : f < h.length := (List.getElem?_eq_some_iff.mp hq).1
  generalize hhE : h.length = p at e3' QE lf
  generalize h ++ [.lst (er.map D.int)] = hA at e3' kA QE
  have hqA := kA _ _ hq
  have kpA := kp.trans kA
  -- the place
  have i0 := QE.ix (Kp.refl _) 0 (by omega)
  have i1 := QE.ix (Kp.refl _) 1 (by omega)
  have i2 := QE.ix (Kp.refl _) 2 (by omega)
  have r2b := QE.rng 2 (by omega)
  generalize Row.R er 0 = v0 at i0
  generalize Row.R er 1 = v1 at i1
  have D0 := Q.ix kpA 0 (by omega)
  have D1 := Q.ix kpA 1 (by omega)
  -- the saying
  obtain ⟨b1, k1, s1⟩ := hs (1 + Row.R er 2 % 18) hA (by omega)
  have x5 : ev G cl (.tup (.cons (.bin .sub (.bin .mod (.ix (.var 4) (.int 0)) (.int 7)) (.int 3)) (.cons (.bin .sub (.bin .mod (.ix (.var 4) (.int 1)) (.int 7)) (.int 3)) .nil))) [some (.ref 0), some (.ref d), some (.ref f), some (.int i), some (.ref p), d5, d6] hA = .ok (.tup [.int (v0 % 7 - 3), .int (v1 % 7 - 3)]) hA := by
    have a1 : ev G cl (.bin .sub (.bin .mod (.ix (.var 4) (.int 0)) (.int 7)) (.int 3)) [some (.ref 0), some (.ref d), some (.ref f), some (.int i), some (.ref p), d5, d6] hA = .ok (.int (v0 % 7 - 3)) hA := evBin2 (evBin2 (evIxV (x := .ref p) rfl (evInt ..) i0) (evInt ..) (md (by decide) _ _)) (evInt ..) (bSub ..)
    have a2 : ev G cl (.bin .sub (.bin .mod (.ix (.var 4) (.int 1)) (.int 7)) (.int 3)) [some (.ref 0), some (.ref d), some (.ref f), some (.int i), some (.ref p), d5, d6] hA = .ok (.int (v1 % 7 - 3)) hA := evBin2 (evBin2 (evIxV (x := .ref p) rfl (evInt ..) i1) (evInt ..) (md (by decide) _ _)) (evInt ..) (bSub ..)
    simp only [evTup, evsCons, evsNil, a1, a2, bindOk, List.length_cons, List.length_nil, Nat.reduceAdd, Nat.reduceLeDiff, if_true]
  have hxy : N3 (v0 % 7 - 3) (v1 % 7 - 3) := by unfold N3; omega
  generalize v0 % 7 - 3 = x at x5 hxy
  generalize v1 % 7 - 3 = y at x5 hxy
  have x6 : ev G cl (.call 16 (.cons (.bin .add (.int 1) (.bin .mod (.ix (.var 4) (.int 2)) (.int 18))) .nil)) [some (.ref 0), some (.ref d), some (.ref f), some (.int i), some (.ref p), some (.tup [.int x, .int y]), d6] hA = .ok (sy b1 k1) hA := by
    have a1 : ev G cl (.bin .add (.int 1) (.bin .mod (.ix (.var 4) (.int 2)) (.int 18))) [some (.ref 0), some (.ref d), some (.ref f), some (.int i), some (.ref p), some (.tup [.int x, .int y]), d6] hA = .ok (.int (1 + Row.R er 2 % 18)) hA := evBin2 (evInt ..) (evBin2 (evIxV (x := .ref p) rfl (evInt ..) i2) (evInt ..) (md (by decide) _ _)) (bAdd ..)
    simp only [evCall, evsCons, evsNil, a1, bindOk, s1, nxOk]
  -- another saying
  have x7 : ∃ b2 k2 hB, Kp hA hB ∧ xs G cl W roS [some (.ref 0), some (.ref d), some (.ref f), some (.int i), some (.ref p), some (.tup [.int x, .int y]), some (sy b1 k1)] hA = .ok (.nx [some (.ref 0), some (.ref d), some (.ref f), some (.int i), some (.ref p), some (.tup [.int x, .int y]), some (sy b2 k2)]) hB := by
    have a1 : ev G cl (.bin .mod (.bin .fdiv (.ix (.var 1) (.int 0)) (.int 8)) (.int 2)) [some (.ref 0), some (.ref d), some (.ref f), some (.int i), some (.ref p), some (.tup [.int x, .int y]), some (sy b1 k1)] hA = .ok (.int (Row.R row 0 / 8 % 2)) hA := evBin2 (evBin2 (evIxV (x := .ref d) rfl (evInt ..) D0) (evInt ..) (dv (by decide) (by decide) _ _)) (evInt ..) (md (by decide) _ _)
    by_cases c : Row.R row 0 / 8 % 2 = 1
    · have c1 := evCmp2 (op := .eq) a1 (evInt ..) (show cmpD .eq (.int (Row.R row 0 / 8 % 2)) (.int 1) hA = .ok (.bl true) hA by rw [cEqI, decide_eq_true c])
      have k3 : Kp hA (hA ++ [.lst [.int 2, .int 11]]) := Kp.app _ _
      obtain ⟨v, hv, e4⟩ := ixDisp (G := G) (cl := cl) (es := .cons (.int 2) (.cons (.int 11) .nil)) (e := .bin .mod (.ix (.var 4) (.int 2)) (.int 2)) (l := [2, 11]) (r := [some (.ref 0), some (.ref d), some (.ref f), some (.int i), some (.ref p), some (.tup [.int x, .int y]), some (sy b1 k1)]) (h := hA) (i := Row.R er 2 % 2)
        (by simp only [evsCons, evsNil, evInt, bindOk]; rfl) (by decide) (evBin2 (evIxV (x := .ref p) rfl (evInt ..) (QE.ix k3 2 (by omega))) (evInt ..) (md (by decide) _ _)) (by omega) (by simp; omega)
      obtain ⟨b2, k2, s2⟩ := hs v (hA ++ [.lst ([2, 11].map D.int)]) (by
        have : v = 2 ∨ v = 11 := by simpa using hv
        omega)
      refine ⟨b2, k2, _, k3, ?_⟩
      rw [xsIffT c1, xssNx (r' := [some (.ref 0), some (.ref d), some (.ref f), some (.int i), some (.ref p), some (.tup [.int x, .int y]), some (sy b2 k2)]) (h' := hA ++ [.lst ([2, 11].map D.int)]) (xsAsgV (by simp only [evCall, evsCons, evsNil, e4, bindOk, s2, nxOk])), xssNil]
      rfl
    · have c1 := evCmp2 (op := .eq) a1 (evInt ..) (show cmpD .eq (.int (Row.R row 0 / 8 % 2)) (.int 1) hA = .ok (.bl false) hA by rw [cEqI, decide_eq_false c])
      exact ⟨b1, k1, hA, .refl _, by rw [xsIffF c1, xssNil]⟩
  obtain ⟨b2, k2, hB, kB, x7⟩ := x7
  have hqB := kB _ _ hqA
  obtain ⟨q1, p1, u1, n1, l1, N1⟩ := putT_rows u x y b2 k2
  have N1 := N1 hN hxy
  have x8 : xs G cl W (.stx (.var 2) (.var 5) (.var 6)) [some (.ref 0), some (.ref d), some (.ref f), some (.int i), some (.ref p), some (.tup [.int x, .int y]), some (sy b2 k2)] hB = .ok (.nx [some (.ref 0), some (.ref d), some (.ref f), some (.int i), some (.ref p), some (.tup [.int x, .int y]), some (sy b2 k2)]) (hB.set f (.dtt (q1.map enc))) := by
    have a1 := stx_rows x y (sy b2 k2) hqB (by omega)
    rw [p1] at a1
    simp only [xsStx, evVar, List.getElem?_cons_succ, ge0, bindOk, nxOk, a1]
  have kC : Kp h0 (hB.set f (.dtt (q1.map enc))) := (kpA.trans kB).set _ hf
  have hqC : (hB.set f (.dtt (q1.map enc)))[f]? = some (.dtt (q1.map enc)) := List.getElem?_set_self (List.getElem?_eq_some_iff.mp hqB).1
  generalize hB.set f (.dtt (q1.map enc)) = hC at x8 kC hqC
  have D1' := Q.ix kC 1 (by omega)
  have a9 : ev G cl (.bin .mod (.ix (.var 1) (.int 1)) (.int 3)) [some (.ref 0), some (.ref d), some (.ref f), some (.int i), some (.ref p), some (.tup [.int x, .int y]), some (sy b2 k2)] hC = .ok (.int (Row.R row 1 % 3)) hC := evBin2 (evIxV (x := .ref d) rfl (evInt ..) D1') (evInt ..) (md (by decide) _ _)
  have x9 : ∃ q2 hD, Kp h0 hD ∧ hD[f]? = some (.dtt (q2.map enc)) ∧ UP q2 ∧ q2.length ≤ 2 * (i + 1) ∧ q2 ≠ [] ∧ Nr q2 ∧ xs G cl W roT [some (.ref 0), some (.ref d), some (.ref f), some (.int i), some (.ref p), some (.tup [.int x, .int y]), some (sy b2 k2)] hC = .ok (.nx [some (.ref 0), some (.ref d), some (.ref f), some (.int i), some (.ref p), some (.tup [.int x, .int y]), some (sy b2 k2)]) hD := by
    by_cases c : Row.R row 1 % 3 = 1
    · have c1 := evCmp2 (op := .eq) a9 (evInt ..) (show cmpD .eq (.int (Row.R row 1 % 3)) (.int 1) hC = .ok (.bl true) hC by rw [cEqI, decide_eq_true c])
      obtain ⟨g, e5⟩ := ht (Row.R row 1 / 3 % 8) x y hC (by omega) (by omega)
      have kD : Kp hC (hC ++ g) := Kp.app _ _
      have hqD := kD _ _ hqC
      have a1 : ev G cl (.bin .mod (.bin .fdiv (.ix (.var 1) (.int 1)) (.int 3)) (.int 8)) [some (.ref 0), some (.ref d), some (.ref f), some (.int i), some (.ref p), some (.tup [.int x, .int y]), some (sy b2 k2)] hC = .ok (.int (Row.R row 1 / 3 % 8)) hC := evBin2 (evBin2 (evIxV (x := .ref d) rfl (evInt ..) D1') (evInt ..) (dv (by decide) (by decide) _ _)) (evInt ..) (md (by decide) _ _)
      have j0 : ixD (.tup [.int x, .int y]) (.int 0) hC = .ok (.int x) hC := rfl
      have j1 : ixD (.tup [.int x, .int y]) (.int 1) hC = .ok (.int y) hC := rfl
      have hx2 : N3 (tx (Row.R row 1 / 3 % 8) x y) (ty (Row.R row 1 / 3 % 8) x y) := hxy.turn
      generalize tx (Row.R row 1 / 3 % 8) x y = x2 at e5 hx2
      generalize ty (Row.R row 1 / 3 % 8) x y = y2 at e5 hx2
      obtain ⟨q2, p2, u2, n2, l2, N2⟩ := putT_rows u1 x2 y2 b2 k2
      have a2 := stx_rows x2 y2 (sy b2 k2) hqD (by omega)
      rw [p2] at a2
      refine ⟨q2, (hC ++ g).set f (.dtt (q2.map enc)), (kC.trans kD).set _ hf, List.getElem?_set_self (List.getElem?_eq_some_iff.mp hqD).1, u2, by omega, n2, N2 N1 hx2, ?_⟩
      rw [xsIffT c1, xssNx (r' := [some (.ref 0), some (.ref d), some (.ref f), some (.int i), some (.ref p), some (.tup [.int x, .int y]), some (sy b2 k2)]) (h' := (hC ++ g).set f (.dtt (q2.map enc))) (by
        simp only [xsStx, evCall, evsCons, evsNil, evIx, evVar, evInt, List.getElem?_cons_succ, ge0, bindOk, nxOk, a1, j0, j1, e5, a2]), xssNil]
    · have c1 := evCmp2 (op := .eq) a9 (evInt ..) (show cmpD .eq (.int (Row.R row 1 % 3)) (.int 1) hC = .ok (.bl false) hC by rw [cEqI, decide_eq_false c])
      exact ⟨q1, hC, kC, hqC, u1, by omega, n1, N1, by rw [xsIffF c1, xssNil]⟩
  obtain ⟨q2, hD, kD, hqD, u2, l2, n2, N2, x9⟩ := x9
  refine ⟨_, [some (.ref 0), some (.ref d), some (.ref f), some (.int i), some (.ref p), some (.tup [.int x, .int y]), some (sy b2 k2)], hD, rfl, ?_, kD, ⟨_, _, _, _, rfl⟩, q2, hqD, u2, l2, (fun _ => n2), N2⟩
  rw [show ([some (.ref 0), some (.ref d), some (.ref f), d3, d4, d5, d6] : Ev).set 3 (some (.int i)) = [some (.ref 0), some (.ref d), some (.ref f), some (.int i), d4, d5, d6] from rfl]
  rw [xssNx (r' := [some (.ref 0), some (.ref d), some (.ref f), some (.int i), some (.ref p), d5, d6]) (h' := hA) (xsAsgV (by simp only [evCall, evsCons, evsNil, evVar, evInt, List.getElem?_cons_succ, ge0, bindOk, e3', nxOk])),
    xssNx (r' := [some (.ref 0), some (.ref d), some (.ref f), some (.int i), some (.ref p), some (.tup [.int x, .int y]), d6]) (h' := hA) (xsAsgV x5),
    xssNx (r' := [some (.ref 0), some (.ref d), some (.ref f), some (.int i), some (.ref p), some (.tup [.int x, .int y]), some (sy b1 k1)]) (h' := hA) (xsAsgV x6), xssNx x7, xssNx x8, xssNx x9, xssNil]
theorem ro_ok (hW : 100 ≤ W) {ns : List Int} (hd : Drs cl 10 ns) (hs : Say cl 16) (ht : Ltn cl 12) (h : Hh) (h00 : lstAt h 0 = some (ns.map D.int)) :
    ∃ h' k l, (xss G cl W roB [some (.ref 0), none, none, none, none, none, none] h).bind endD = .ok (.ref k) h' ∧ Kp h h' ∧ h.length ≤ k ∧ h'[k]? = some (.lst (l.map rwD)) ∧ l ≠ [] ∧ l.length ≤ 16 ∧ UP l ∧ srt l = l ∧ Nr l := by
  obtain ⟨row, e1, e2, e3⟩ := hd 18 3 h (by decide) (by decide) (by decide) h00
  have e3' : cl 10 [.ref 0, .int 18, .int 3] h = .ok (.ref h.length) (h ++ [.lst (row.map D.int)]) := e3
  have k1 : Kp h (h ++ [.lst (row.map D.int)]) := Kp.app _ _
  have Q : Row (h ++ [.lst (row.map D.int)]) h.length row := ⟨lstAt_last _ _, e2⟩
  generalize hp : h.length = d at e3' Q
  generalize h ++ [.lst (row.map D.int)] = h0 at e3' Q k1
  have hd0 : d ≤ h0.length := by rw [← hp]; exact k1.len
  have hk2 : Kp h0 (h0 ++ [.dtt []]) := Kp.app _ _
  have D0 := Q.ix hk2 0 (by omega)
  have v0 := Q.rng 0 (by omega)
  have en : ev G cl (.bin .add (.int 1) (.bin .mod (.ix (.var 1) (.int 0)) (.int 8))) [some (.ref 0), some (.ref d), some (.ref h0.length), none, none, none, none] (h0 ++ [.dtt []]) = .ok (.int (1 + Row.R row 0 % 8)) (h0 ++ [.dtt []]) := evBin2 (evInt ..) (evBin2 (evIxV (x := .ref d) rfl (evInt ..) D0) (evInt ..) (md (by decide) _ _)) (bAdd ..)
  obtain ⟨j, ej, hj1, hj2⟩ : ∃ j : Nat, (1 + Row.R row 0 % 8 : Int) = (j : Int) ∧ 1 ≤ j ∧ j ≤ 8 := ⟨(1 + Row.R row 0 % 8).toNat, by omega, by omega, by omega⟩
  rw [ej] at en
  obtain ⟨r', h', e4, ⟨kp, ⟨d3, d4, d5, d6, er⟩, q, hq, u, hl, hn, hN⟩⟩ := forS_inv (t := .nm 3) (body := xss G cl W roL) (roI h0 d h0.length) (rngD 0 j) 0
    (fun i dd hi r hh I => by
      rw [Nat.zero_add] at I ⊢
      have hij : i < j := by have := (List.getElem?_eq_some_iff.mp hi).1; rwa [rngD_len] at this
      rw [rngD_get j i hij] at hi
      cases hi
      exact ro_turn hd hs ht (k1.lst h00) Q e1 (Nat.le_refl _) i (by omega) r hh I)
    [some (.ref 0), some (.ref d), some (.ref h0.length), none, none, none, none] (h0 ++ [.dtt []]) ⟨hk2, ⟨_, _, _, _, rfl⟩, [], by simp, List.Pairwise.nil, by simp, fun z => absurd z (by omega), fun r hr => by cases hr⟩
  rw [Nat.zero_add, rngD_len] at hl hn
  subst er
  have lf : h0.length < h'.length := (List.getElem?_eq_some_iff.mp hq).1
  obtain ⟨gb, e5⟩ := compS_gen (φ := fun r : Rw => D.tup [.tup [.int r.1, .int r.2.1], sy r.2.2.1 r.2.2.2]) (t := .tp [0, 1]) (cs := evt G cl .nil) (f := ev G cl (.bin .add (.var 0) (.var 1))) (h0 := h'.set h0.length .ded) (F := fun r => ∃ a b, r = [a, b]) (p := fun _ => true) (g := rwD) q
    (fun x _ => ⟨fun r ys gb ⟨a, b, er⟩ => by
      subst er
      refine ⟨_, [], rfl, by rw [evtNil, List.append_nil], ⟨_, _, rfl⟩, fun _ => ⟨[], ?_⟩⟩
      rw [List.append_nil, List.append_nil]
      exact evBin2 (x := .tup [.int x.1, .int x.2.1]) (y := sy x.2.2.1 x.2.2.2) (evV rfl) (evV rfl) rfl⟩)
    [none, none] [] [] ⟨_, _, rfl⟩ (by simp; omega)
  rw [List.filter_eq_self.mpr (fun _ _ => rfl), List.nil_append, List.length_set] at e5
  have e6 : ev G cl roC [some (.ref 0), some (.ref d), some (.ref h0.length), d3, d4, d5, d6] h' = .ok (.ref h'.length) (h'.set h0.length .ded ++ O.lst (q.map rwD) :: gb) := by
    rw [evComp, evsCons, evV (x := .ref h0.length) rfl, bindOk, evsNil, bindOk, bindOk]
    have e7 : compL (.tp [0, 1]) (evt G cl .nil) (ev G cl (.bin .add (.var 0) (.var 1))) h'.length .its [.ref h0.length] h' [none, none] (h' ++ [.lst []]) = .ok () (h'.set h0.length .ded ++ O.lst (q.map rwD) :: gb) := by
      simp only [compL, hq]
      rw [List.map_map, List.set_append_left _ _ lf]
      exact e5
    show (compL _ _ _ _ _ _ _ [none, none] _).bind _ = _
    rw [e7]; rfl
  have k6 : Kp h (h'.set h0.length .ded ++ O.lst (q.map rwD) :: gb) := ((k1.trans kp).set _ k1.len).trans (Kp.app _ _)
  have x6 : lstAt (h'.set h0.length .ded ++ O.lst (q.map rwD) :: gb) h'.length = some (q.map rwD) := by
    have := lstAt_mid (h'.set h0.length .ded) gb (q.map rwD)
    rwa [List.length_set] at this
  have ln : h.length ≤ (h'.set h0.length .ded ++ O.lst (q.map rwD) :: gb).length := k6.len
  generalize h'.set h0.length .ded ++ O.lst (q.map rwD) :: gb = H1 at e6 k6 x6 ln
  have es := srtL_rows x6 u (by omega)
  refine ⟨H1 ++ [.lst ((srt q).map rwD)], H1.length, srt q, ?_, k6.trans (Kp.app _ _), by omega, by rw [get_last], ?_, by rw [srt_len]; omega, u.perm (srt_perm q).symm, srt_uniq (srt_perm q) (u.perm (srt_perm q).symm), fun r hr => hN r ((srt_perm q).mem_iff.mp hr)⟩
  · rw [xssNx (r' := [some (.ref 0), some (.ref d), none, none, none, none, none]) (h' := h0) (xsAsgV (by simp only [evCall, evsCons, evsNil, evVar, evInt, ge0, bindOk, e3', nxOk])),
      xssNx (r' := [some (.ref 0), some (.ref d), some (.ref h0.length), none, none, none, none]) (h' := h0 ++ [.dtt []]) (xsAsgV (by rw [ev])),
      xssNx (r' := [some (.ref 0), some (.ref d), some (.ref h0.length), d3, d4, d5, d6]) (h' := h') (xsFor_r1 en (okR_nat (by omega)) e4),
      xssRt (d := .ref H1.length) (h' := H1 ++ [.lst ((srt q).map rwD)]) (by simp only [xsRet, evBlt, evsCons, evsNil, e6, bindOk, es, nxOk])]
    rfl
  · intro z
    have := srt_len q
    rw [z] at this
    exact hn (by omega) (List.length_eq_zero_iff.mp this.symm)
end
end Ng
end
section
set_option Elab.async false
set_option linter.all false
set_option maxRecDepth 100000
set_option maxHeartbeats 4000000
set_option autoImplicit false
namespace Ng
open PySem L2
theorem eqL_rows : ∀ a b : List Rw, a.length = b.length → eqL (eqD 20) (a.map rwD) (b.map rwD) = some (decide (a = b))
  | [], [], _ => rfl
  | [], _ :: _, h => by cases h
  | _ :: _, [], h => by cases h
  | x :: xs, y :: ys, h => by
    rw [List.map_cons, List.map_cons, eqL1, eqD_rows, eqL_rows xs ys (by simpa using h)]
    show some (decide (x = y) && decide (xs = ys)) = _
    rw [← Bool.decide_and]
    congr 1
    simp
theorem cEqR {h : Hh} {i j : Nat} {a b : List Rw} (ha : lstAt h i = some (a.map rwD)) (hb : lstAt h j = some (b.map rwD)) : cmpD .eq (.ref i) (.ref j) h = .ok (.bl (decide (a = b))) h := by
  have e : eqH (.ref i) (.ref j) h = some (decide (a = b)) := by
    simp only [eqH, ha, hb, List.length_map]
    by_cases c : a.length = b.length
    · rw [if_pos c, eqL_rows a b c]
    · rw [if_neg c, decide_eq_false (fun z => c (by rw [z]))]
  show (match eqH (.ref i) (.ref j) h with | some b => Rs.ok (D.bl b) h | none => .bad) = _
  rw [e]
def mtc (one other : List Rw) (t : Nat) : M3 := ((t : Int), mn (one.map (·.1)) - cx t other, mn (one.map (·.2.1)) - cy t other)
def mtp (one other : List Rw) (t : Nat) : Bool := decide (led (mtc one other t) other = one)
def mts (one other : List Rw) (n : Nat) : List M3 := ((List.range n).filter (mtp one other)).map (mtc one other)
theorem mtc8 {one other : List Rw} {t : Nat} (h : t < 8) : ok8 (mtc one other t) := ⟨by show (0 : Int) ≤ t; omega, by show (t : Int) < 8; omega⟩
theorem mn_ledx {t a b : Int} {l : List Rw} (hl : l ≠ []) : mn ((led (t, a, b) l).map (·.1)) = cx t l + a := by
  unfold led cx
  rw [mn_perm ((srt_perm _).map _), List.map_map, ← mn_add (by simpa using hl), List.map_map]
  rfl
theorem mn_ledy {t a b : Int} {l : List Rw} (hl : l ≠ []) : mn ((led (t, a, b) l).map (·.2.1)) = cy t l + b := by
  unfold led cy
  rw [mn_perm ((srt_perm _).map _), List.map_map, ← mn_add (by simpa using hl), List.map_map]
  rfl
theorem led_one {t : Nat} {a b : Int} {one other : List Rw} (hl : other ≠ []) (e : led ((t : Int), a, b) other = one) : ((t : Int), a, b) = mtc one other t := by
  have x := mn_ledx (t := (t : Int)) (a := a) (b := b) hl
  have y := mn_ledy (t := (t : Int)) (a := a) (b := b) hl
  rw [e] at x y
  unfold mtc
  refine Prod.ext rfl (Prod.ext ?_ ?_)
  · show a = mn (one.map (·.1)) - cx t other; omega
  · show b = mn (one.map (·.2.1)) - cy t other; omega
theorem filter_one {p : Rw → Bool} {r0 : Rw} : ∀ {l : List Rw}, UP l → r0 ∈ l → (∀ r ∈ l, p r = true ↔ (r.1 = r0.1 ∧ r.2.1 = r0.2.1)) → l.filter p = [r0]
  | [], _, h, _ => by cases h
  | x :: l, u, h, hp => by
    obtain ⟨u1, u2⟩ := List.pairwise_cons.mp u
    by_cases e : r0 = x
    · subst e
      rw [List.filter_cons, if_pos ((hp r0 List.mem_cons_self).mpr ⟨rfl, rfl⟩)]
      congr 1
      rw [List.filter_eq_nil_iff]
      intro r hr z
      obtain ⟨z1, z2⟩ := (hp r (List.mem_cons_of_mem _ hr)).mp z
      exact u1 r hr ⟨z1.symm, z2.symm⟩
    · have hm : r0 ∈ l := by
        rcases List.mem_cons.mp h with z | z
        · exact absurd z e
        · exact z
      rw [List.filter_cons, if_neg (fun z => by
        obtain ⟨z1, z2⟩ := (hp x List.mem_cons_self).mp z
        exact u1 r0 hm ⟨z1, z2⟩)]
      exact filter_one u2 hm fun r hr => hp r (List.mem_cons_of_mem _ hr)
/-- a motion by which the first row comes to a row -/
def cand (t : Nat) (o r : Rw) : M3 := ((t : Int), r.1 - tx t o.1 o.2.1, r.2.1 - ty t o.1 o.2.1)
theorem cands {one other : List Rw} {o : Rw} {t : Nat} (u : UP one) (ho : o ∈ other) : (one.filter fun r => decide (led (cand t o r) other = one)).map (cand t o) = if mtp one other t = true then [mtc one other t] else [] := by
  have hl : other ≠ [] := fun z => by subst z; cases ho
  by_cases c : mtp one other t = true
  · rw [if_pos c]
    have c' : led (mtc one other t) other = one := of_decide_eq_true c
    have hm : mv (mtc one other t) o ∈ one := by
      have := (srt_perm (other.map (mv (mtc one other t)))).mem_iff.mpr (List.mem_map.mpr ⟨o, ho, rfl⟩)
      have c2 : srt (other.map (mv (mtc one other t))) = one := c'
      rwa [c2] at this
    rw [filter_one u hm fun r hr => ?_]
    · show [cand t o (mv (mtc one other t) o)] = _
      congr 1
      refine Prod.ext rfl (Prod.ext ?_ ?_)
      · show tx t o.1 o.2.1 + (mtc one other t).2.1 - tx t o.1 o.2.1 = _; omega
      · show ty t o.1 o.2.1 + (mtc one other t).2.2 - ty t o.1 o.2.1 = _; omega
    · rw [decide_eq_true_eq]
      constructor
      · intro z
        have z' : cand t o r = mtc one other t := led_one hl z
        have z1 := congrArg (fun m : M3 => m.2.1) z'
        have z2 := congrArg (fun m : M3 => m.2.2) z'
        simp only [cand] at z1 z2
        constructor
        · show r.1 = tx t o.1 o.2.1 + (mtc one other t).2.1; omega
        · show r.2.1 = ty t o.1 o.2.1 + (mtc one other t).2.2; omega
      · rintro ⟨z1, z2⟩
        have z1' : r.1 = tx t o.1 o.2.1 + (mtc one other t).2.1 := z1
        have z2' : r.2.1 = ty t o.1 o.2.1 + (mtc one other t).2.2 := z2
        have : cand t o r = mtc one other t := by
          refine Prod.ext rfl (Prod.ext ?_ ?_)
          · show r.1 - tx t o.1 o.2.1 = _; omega
          · show r.2.1 - ty t o.1 o.2.1 = _; omega
        rw [this]; exact c'
  · rw [if_neg c]
    have : (one.filter fun r => decide (led (cand t o r) other = one)) = [] := by
      rw [List.filter_eq_nil_iff]
      intro r hr z
      have z' := of_decide_eq_true z
      have z2 : cand t o r = mtc one other t := led_one hl z'
      rw [z2] at z'
      exact c (decide_eq_true z')
    rw [this]; rfl
theorem mts_succ (one other : List Rw) (n : Nat) : mts one other (n + 1) = mts one other n ++ if mtp one other n = true then [mtc one other n] else [] := by
  unfold mts
  rw [List.range_succ, List.filter_append, List.map_append]
  congr 1
  by_cases c : mtp one other n = true
  · rw [if_pos c, List.filter_cons, if_pos c]; rfl
  · rw [if_neg c, List.filter_cons, if_neg c]; rfl
theorem mts_len (one other : List Rw) (n : Nat) : (mts one other n).length ≤ n := by
  unfold mts
  rw [List.length_map]
  exact Nat.le_trans (List.length_filter_le _ _) (by simp)
theorem srt_mts {h : Hh} {n : Nat} {one other : List Rw} (e : lstAt h n = some ((mts one other 8).map mo)) : bltD .sorted [.ref n] h = .ok (.ref h.length) (h ++ [.lst ((mts one other 8).map mo)]) := by
  show srtL (.ref n) h = _
  unfold srtL
  have e1 : isLst (.ref n) h = true := by rw [isLstR, e]; rfl
  have es : srtD ((mts one other 8).map mo) = some ((mts one other 8).map mo) := by
    refine srtD_ok ⟨by have := mts_len one other 8; rw [List.length_map]; omega, .inr ⟨3, by decide, fun x hx => ?_⟩⟩ (.refl _) ?_
    · obtain ⟨r, _, rfl⟩ := List.mem_map.mp hx; rfl
    · rw [List.pairwise_map]
      unfold mts
      rw [List.pairwise_map]
      refine (List.pairwise_lt_range.filter _).imp fun {a b} hab => ?_
      have e1 : ¬ ((a : Int) = (b : Int)) := by omega
      have e2 : ¬ ((b : Int) = (a : Int)) := by omega
      have e3 : (a : Int) < (b : Int) := by omega
      have e4 : ¬ (b : Int) < (a : Int) := by omega
      exact ⟨by show ltF [D.int (a : Int), _, _] [D.int (b : Int), _, _] = _; simp only [ltF, if_neg e1, decide_eq_true e3], by show ltF [D.int (b : Int), _, _] [D.int (a : Int), _, _] = _; simp only [ltF, if_neg e2, decide_eq_false e4]⟩
  rw [e1, sRef, e]
  simp only [es]
section
variable {G : Gs} {cl : Cl} {W : Nat}
abbrev mtB : Ss := (.cons (.asg (.nm 2) (.call 6 (.cons (.comp (.tp [0, 1, 2, 3]) .sq (.cons (.var 0) .nil) .nil (.tup (.cons (.var 0) (.cons (.var 1) .nil))) ["x", "y", "word", "number"] []) .nil))) (.cons (.ret (.comp (.nm 0) .sq (.cons (.call 8 (.cons (.var 1) (.cons (.var 2) .nil))) .nil) (.cons (.cmp .eq (.call 5 (.cons (.var 1) (.cons (.var 0) .nil))) (.blt .sorted (.cons (.var 2) .nil))) .nil) (.var 0) ["motion", "other", "one"] [1, 0])) .nil))
theorem mt_ok (hco : Cor cl 6) (hc : Cgs cl 8) (hd : Led cl 5) (a b : Nat) (one other : List Rw) (h : Hh) (ha : lstAt h a = some (one.map rwD)) (hb : lstAt h b = some (other.map rwD)) (h1 : one ≠ []) (h2 : other ≠ []) (u1 : UP one) (u2 : UP other) (l1 : one.length < 64) (l2 : other.length < 64) (hs : srt one = one) :
    ∃ h' k, (xss G cl W mtB [some (.ref a), some (.ref b), none] h).bind endD = .ok (.ref k) h' ∧ Kp h h' ∧ h'[k]? = some (.lst ((mts one other 8).map mo)) := by
  obtain ⟨g1, e1⟩ := evC_map (G := G) (cl := cl) (t := .tp [0, 1, 2, 3]) (it := .cons (.var 0) .nil) (e := .tup (.cons (.var 0) (.cons (.var 1) .nil))) (N := ["x", "y", "word", "number"]) (cap := []) (r := [some (.ref a), some (.ref b), none]) (h := h) (h1 := h) (l := one) rwD (fun r => ∃ a b c d, r = [a, b, c, d]) (fun r => pl (r.1, r.2.1)) (by simp) ha (by omega) ⟨_, _, _, _, rfl⟩
    (by
      rintro ⟨x, y, w, k⟩ _ r h ⟨a, b, c, d, rfl⟩
      refine ⟨_, rfl, ⟨_, _, _, _, rfl⟩, ?_⟩
      simp only [evTup, evsCons, evsNil, evVar, List.getElem?_cons_succ, ge0, bindOk, List.length_cons, List.length_nil, Nat.reduceAdd, Nat.reduceLeDiff, if_true, setAll1, setAll0, List.set_cons_succ, List.set_cons_zero]
      rfl)
  have x1 : lstAt (h ++ O.lst (one.map fun r => pl (r.1, r.2.1)) :: g1) h.length = some ((one.map fun r : Rw => (r.1, r.2.1)).map pl) := by rw [lstAt_mid, List.map_map]; rfl
  have q1 : Kp h (h ++ O.lst (one.map fun r => pl (r.1, r.2.1)) :: g1) := Kp.app _ _
  obtain ⟨g2, e2⟩ := hco h.length _ _ x1 (by simpa using h1) (by rw [List.length_map]; omega)
  rw [List.map_map, List.map_map] at e2
  have e2' : cl 6 [.ref h.length] (h ++ O.lst (one.map fun r => pl (r.1, r.2.1)) :: g1) = .ok (.tup [.int (mn (one.map (·.1))), .int (mn (one.map (·.2.1)))]) ((h ++ O.lst (one.map fun r => pl (r.1, r.2.1)) :: g1) ++ g2) := e2
  have q2 : Kp h ((h ++ O.lst (one.map fun r => pl (r.1, r.2.1)) :: g1) ++ g2) := q1.trans (Kp.app _ _)
  generalize (h ++ O.lst (one.map fun r => pl (r.1, r.2.1)) :: g1) ++ g2 = H2 at e2' q2
  obtain ⟨g3, e3⟩ := hc b (mn (one.map (·.1))) (mn (one.map (·.2.1))) other H2 (q2.lst hb) h2 l2
  have x3 := lstAt_mid H2 g3 ((List.range 8).map fun t : Nat => mo (mtc one other t))
  have e3' : cl 8 [.ref b, .tup [.int (mn (one.map (·.1))), .int (mn (one.map (·.2.1)))]] H2 = .ok (.ref H2.length) (H2 ++ O.lst ((List.range 8).map fun t : Nat => mo (mtc one other t)) :: g3) := e3
  have q3 : Kp h (H2 ++ O.lst ((List.range 8).map fun t : Nat => mo (mtc one other t)) :: g3) := q2.trans (Kp.app _ _)
  generalize H2 ++ O.lst ((List.range 8).map fun t : Nat => mo (mtc one other t)) :: g3 = H3 at e3' x3 q3
  obtain ⟨gb, e4⟩ := evC_lst (G := G) (cl := cl) (t := .nm 0) (it := .cons (.call 8 (.cons (.var 1) (.cons (.var 2) .nil))) .nil) (cs := .cons (.cmp .eq (.call 5 (.cons (.var 1) (.cons (.var 0) .nil))) (.blt .sorted (.cons (.var 2) .nil))) .nil) (e := .var 0) (N := ["motion", "other", "one"]) (cap := [1, 0]) (r := [some (.ref a), some (.ref b), some (.tup [.int (mn (one.map (·.1))), .int (mn (one.map (·.2.1)))])]) (h := H2) (h1 := H3) (l := List.range 8) (fun t : Nat => mo (mtc one other t)) (fun r => ∃ d, r = [d, some (.ref b), some (.ref a)]) (mtp one other) (fun t : Nat => mo (mtc one other t))
    (by simp only [evsCons, evsNil, evCall, evVar, List.getElem?_cons_succ, ge0, bindOk, e3', nxOk]) x3 (by simp) ⟨_, rfl⟩
    (fun t ht => ⟨fun r ys gb ⟨d, er⟩ => by
      subst er
      rw [List.mem_range] at ht
      have qh : Kp h (H3 ++ .lst ys :: gb) := q3.trans (Kp.app _ _)
      obtain ⟨g5, k5, e5, l5, c5⟩ := hd b (mtc one other t) other (H3 ++ .lst ys :: gb) (mtc8 ht) (qh.lst hb) u2 l2
      have q5 : Kp (H3 ++ .lst ys :: gb) ((H3 ++ .lst ys :: gb) ++ g5) := Kp.app _ _
      have es := srtL_rows (h := (H3 ++ .lst ys :: gb) ++ g5) (n := a) (l := one) ((qh.trans q5).lst ha) u1 l1
      rw [hs] at es
      have ec : cmpD .eq (.ref k5) (.ref ((H3 ++ .lst ys :: gb) ++ g5).length) (((H3 ++ .lst ys :: gb) ++ g5) ++ [.lst (one.map rwD)]) = .ok (.bl (mtp one other t)) (((H3 ++ .lst ys :: gb) ++ g5) ++ [.lst (one.map rwD)]) := cEqR (lstAt_app _ _ (lstAt_of c5)) (lstAt_last _ _)
      refine ⟨_, g5 ++ [.lst (one.map rwD)], rfl, ?_, ⟨_, rfl⟩, fun _ => ⟨[], ?_⟩⟩
      · rw [show H3 ++ .lst ys :: (gb ++ (g5 ++ [.lst (one.map rwD)])) = ((H3 ++ .lst ys :: gb) ++ g5) ++ [.lst (one.map rwD)] by simp]
        simp only [evtCons, evCmp, evCall, evBlt, evsCons, evsNil, evVar, List.getElem?_cons_succ, ge0, bindOk, List.set_cons_zero, e5, nxOk, es, ec, tBl]
        cases mtp one other t
        · rfl
        · simp only [evtNil]
      · rw [List.append_nil]
        exact evV rfl⟩)
  refine ⟨_, H3.length, ?_, q3.trans (Kp.app _ (.lst (((List.range 8).filter (mtp one other)).map fun t : Nat => mo (mtc one other t)) :: gb)), by rw [get_mid]; unfold mts; rw [List.map_map]; rfl⟩
  rw [xssNx (r' := [some (.ref a), some (.ref b), some (.tup [.int (mn (one.map (·.1))), .int (mn (one.map (·.2.1)))])]) (h' := H2) (xsAsgV (by simp only [evCall, evsCons, evsNil, e1, bindOk, e2', nxOk])),
    xssRt (d := .ref H3.length) (by rw [xsRet, e4]; rfl)]
  rfl
end
end Ng
end
section
set_option Elab.async false
set_option linter.all false
set_option maxRecDepth 100000
set_option maxHeartbeats 4000000
set_option autoImplicit false
namespace Ng
open PySem L2
theorem slU_ok {h : Hh} {n : Nat} {l : List D} {i : Int} (e : lstAt h n = some l) (hi : 0 ≤ i) : slUD (.ref n) (.int i) h = .ok (.ref h.length) (h ++ [.lst (l.take i.toNat)]) := by
  have e1 : isLst (.ref n) h = true := by rw [isLstR, e]; rfl
  simp only [slUD, e1, sRef, e, hi, if_true]
theorem slL_ok {h : Hh} {n : Nat} {l : List D} {i : Int} (e : lstAt h n = some l) (hi : 0 ≤ i) : slLD (.ref n) (.int i) h = .ok (.ref h.length) (h ++ [.lst (l.drop i.toNat)]) := by
  have e1 : isLst (.ref n) h = true := by rw [isLstR, e]; rfl
  simp only [slLD, e1, sRef, e, hi, if_true]
theorem bAddL {h : Hh} {p q : Nat} {x y : List D} (ea : h[p]? = some (.lst x)) (eb : h[q]? = some (.lst y)) (hl : x.length + y.length ≤ 1000) : binD .add (.ref p) (.ref q) h = .ok (.ref h.length) (h ++ [.lst (x ++ y)]) := by
  simp only [binD, ea, eb, hl, if_true]
theorem UP_rest {A B : List Rw} {o w : Rw} (u : UP (A ++ o :: B)) (hw : (w.1 = o.1 ∧ w.2.1 = o.2.1) ∨ ∀ r ∈ A ++ B, np r w) : UP (A ++ B) ∧ UP (A ++ B ++ [w]) := by
  unfold UP at u ⊢
  rw [List.pairwise_append] at u
  obtain ⟨a, b, c⟩ := u
  obtain ⟨b1, b2⟩ := List.pairwise_cons.mp b
  have ab : (A ++ B).Pairwise np := List.pairwise_append.mpr ⟨a, b2, fun x hx y hy => c x hx y (List.mem_cons_of_mem _ hy)⟩
  refine ⟨ab, List.pairwise_append.mpr ⟨ab, List.pairwise_singleton _ _, fun x hx y hy => ?_⟩⟩
  have : y = w := by simpa using hy
  subst this
  rcases hw with ⟨z1, z2⟩ | hw
  · have q : np x o := by
      rcases List.mem_append.mp hx with hx | hx
      · exact c x hx o List.mem_cons_self
      · exact np_symm (b1 x hx)
    exact fun z => q ⟨z.1.trans z1, z.2.trans z2⟩
  · exact hw x hx
section
variable {G : Gs} {cl : Cl} {W : Nat}
theorem evSlU (a b : E) (r : Ev) (h : Hh) : ev G cl (.slU a b) r h = (ev G cl a r h).bind fun x h => (ev G cl b r h).bind fun y h => slUD x y h := by rw [ev]
theorem evSlL (a b : E) (r : Ev) (h : Hh) : ev G cl (.slL a b) r h = (ev G cl a r h).bind fun x h => (ev G cl b r h).bind fun y h => slLD x y h := by rw [ev]
abbrev alt8 : S := (.iff (.or (.not (.var 7)) (.cmp .lt (.bin .mod (.ix (.var 2) (.int 7)) (.int 4)) (.int 3))) (.cons (.asg (.nm 7) (.bin .add (.var 7) (.lst (.cons (.ix (.var 6) (.bin .mod (.ix (.var 2) (.int 7)) (.int 3))) .nil)))) .nil) .nil)
abbrev altT : Ss := (.cons (.asg (.nm 4) (.bin .mod (.ix (.var 2) (.int 6)) (.blt .len (.cons (.var 3) .nil)))) (.cons (.asg (.nm 5) (.ix (.var 3) (.var 4))) (.cons (.asg (.nm 6) (.lst (.cons (.tup (.cons (.ix (.var 5) (.int 0)) (.cons (.ix (.var 5) (.int 1)) (.cons (.str "star") (.cons (.int 9) .nil))))) (.cons (.tup (.cons (.ix (.var 5) (.int 0)) (.cons (.ix (.var 5) (.int 1)) (.cons (.str "under") (.cons (.int 9) .nil))))) (.cons (.tup (.cons (.bin .add (.ix (.var 5) (.int 0)) (.int 1)) (.cons (.bin .add (.ix (.var 5) (.int 1)) (.int 20)) (.cons (.str "star") (.cons (.int 1) .nil))))) .nil))))) (.cons (.asg (.nm 7) (.bin .add (.slU (.var 3) (.var 4)) (.slL (.var 3) (.bin .add (.var 4) (.int 1))))) (.cons alt8 (.cons (.asg (.nm 3) (.blt .sorted (.cons (.var 7) .nil))) .nil))))))
abbrev altS : S := (.iff (.cmp .eq (.bin .mod (.ix (.var 2) (.int 5)) (.int 3)) (.int 1)) altT .nil)
abbrev inL : Ss := (.cons (.asg (.nm 12) (.tup (.cons (.var 9) (.cons (.bin .sub (.ix (.var 5) (.int 0)) (.var 10)) (.cons (.bin .sub (.ix (.var 5) (.int 1)) (.var 11)) .nil))))) (.cons (.iff (.cmp .eq (.call 17 (.cons (.var 3) (.cons (.var 12) .nil))) (.var 1)) (.cons (.ex (.app (.var 8) (.var 12))) .nil) .nil) .nil))
abbrev duL : Ss := (.cons (.asg (.tp [10, 11]) (.call 12 (.cons (.var 9) (.cons (.ix (.ix (.var 3) (.int 0)) (.int 0)) (.cons (.ix (.ix (.var 3) (.int 0)) (.int 1)) .nil))))) (.cons (.forr (.nm 5) (.sq (.var 1)) inL) .nil))
abbrev lmB : Ss := (.cons (.asg (.nm 1) (.call 18 (.cons (.var 0) .nil))) (.cons (.asg (.nm 2) (.call 10 (.cons (.var 0) (.cons (.int 17) (.cons (.int 8) .nil))))) (.cons (.asg (.nm 3) (.call 17 (.cons (.var 1) (.cons (.call 14 (.cons (.var 2) (.cons (.int 0) .nil))) .nil)))) (.cons altS (.cons (.asg (.nm 8) (.lst .nil)) (.cons (.forr (.nm 9) (.r1 (.int 8)) duL) (.cons (.asg (.nm 13) (.lst (.cons (.blt .list (.cons (.var 1) .nil)) (.cons (.blt .list (.cons (.var 3) .nil)) .nil)))) (.cons (.asg (.nm 14) (.call 9 (.cons (.ix (.var 13) (.int 0)) (.cons (.ix (.var 13) (.int 1)) .nil)))) (.cons (.ret (.and (.call 15 (.cons (.var 14) (.cons (.blt .sorted (.cons (.var 8) .nil)) .nil))) (.call 15 (.cons (.var 13) (.cons (.lst (.cons (.var 1) (.cons (.var 3) .nil))) .nil))))) .nil)))))))))
def odds (o : Rw) : List Rw := [(o.1, o.2.1, false, 9), (o.1, o.2.1, true, 9), (o.1 + 1, o.2.1 + 20, false, 1)]
theorem alt_ok {h : Hh} {a d b : Nat} {row : List Int} {other : List Rw} (Q : Row h d row) (h8 : row.length = 8) (hb : lstAt h b = some (other.map rwD)) (u : UP other) (hn : other ≠ []) (hl : other.length ≤ 16) (hsp : ∀ r ∈ other, ∀ s ∈ other, s.2.1 - r.2.1 < 20) :
    ∃ h' b' other' d4 d5 d6 d7, xs G cl W altS [some (.ref 0), some (.ref a), some (.ref d), some (.ref b), none, none, none, none, none, none, none, none, none, none, none] h = .ok (.nx [some (.ref 0), some (.ref a), some (.ref d), some (.ref b'), d4, d5, d6, d7, none, none, none, none, none, none, none]) h' ∧ Kp h h' ∧ lstAt h' b' = some (other'.map rwD) ∧ UP other' ∧ other' ≠ [] ∧ other'.length ≤ 17 := by
  have a1 : ev G cl (.bin .mod (.ix (.var 2) (.int 5)) (.int 3)) [some (.ref 0), some (.ref a), some (.ref d), some (.ref b), none, none, none, none, none, none, none, none, none, none, none] h = .ok (.int (Row.R row 5 % 3)) h := evBin2 (evIxV (x := .ref d) rfl (evInt ..) (Q.ix (Kp.refl _) 5 (by omega))) (evInt ..) (md (by decide) _ _)
  by_cases c : Row.R row 5 % 3 = 1
  · have c1 := evCmp2 (op := .eq) a1 (evInt ..) (show cmpD .eq (.int (Row.R row 5 % 3)) (.int 1) h = .ok (.bl true) h by rw [cEqI, decide_eq_true c])
    have hp : (0 : Int) < (other.length : Int) := by
      have : other.length ≠ 0 := fun z => hn (List.length_eq_zero_iff.mp z)
      omega
    have el := evLen (G := G) (cl := cl) (i := 3) (r := [some (.ref 0), some (.ref a), some (.ref d), some (.ref b), none, none, none, none, none, none, none, none, none, none, none]) rfl hb
    rw [List.length_map] at el
    have s4 : ev G cl (.bin .mod (.ix (.var 2) (.int 6)) (.blt .len (.cons (.var 3) .nil))) [some (.ref 0), some (.ref a), some (.ref d), some (.ref b), none, none, none, none, none, none, none, none, none, none, none] h = .ok (.int (Row.R row 6 % (other.length : Int))) h := evBin2 (evIxV (x := .ref d) rfl (evInt ..) (Q.ix (Kp.refl _) 6 (by omega))) el (bMod h hp)
    obtain ⟨n, en, hn2⟩ : ∃ n : Nat, Row.R row 6 % (other.length : Int) = (n : Int) ∧ n < other.length := by
      have p1 := Int.emod_nonneg (Row.R row 6) (show (other.length : Int) ≠ 0 by omega)
      have p2 := Int.emod_lt_of_pos (Row.R row 6) hp
      exact ⟨(Row.R row 6 % (other.length : Int)).toNat, by omega, by omega⟩
    rw [en] at s4
    obtain ⟨o, eo⟩ : ∃ o, other[n]? = some o := ⟨_, List.getElem?_eq_getElem hn2⟩
    have io : ixD (.ref b) (.int n) h = .ok (rwD o) h := by rw [iRef _ _ hb, atI_nat (v := rwD o) (by rw [List.getElem?_map, eo]; rfl)]
    have spl : other = other.take n ++ o :: other.drop (n + 1) := by
      have := (List.take_append_drop n other).symm
      rw [List.drop_eq_getElem_cons hn2] at this
      have e2 : other[n] = o := by rw [List.getElem?_eq_getElem hn2] at eo; exact Option.some.inj eo
      rwa [e2] at this
    have lAB : (other.take n ++ other.drop (n + 1)).length ≤ 15 := by simp; omega
    generalize hA : other.take n = A at spl lAB
    generalize hB : other.drop (n + 1) = B at spl lAB
    have UPw : ∀ w ∈ odds o, UP (A ++ B ++ [w]) := fun w hw => by
      have : (w.1 = o.1 ∧ w.2.1 = o.2.1) ∨ w = (o.1 + 1, o.2.1 + 20, false, 1) := by
        simp only [odds, List.mem_cons, List.not_mem_nil, or_false] at hw
        rcases hw with rfl | rfl | rfl
        · exact .inl ⟨rfl, rfl⟩
        · exact .inl ⟨rfl, rfl⟩
        · exact .inr rfl
      rw [spl] at u hsp
      refine (UP_rest u (this.imp id fun z r hr zz => ?_)).2
      subst z
      have := hsp o (by simp) r (by rcases List.mem_append.mp hr with hr | hr <;> simp [hr])
      have z2 : r.2.1 = o.2.1 + 20 := zz.2
      omega
    have UPab : UP (A ++ B) := by rw [spl] at u; exact (UP_rest (w := o) u (.inl ⟨rfl, rfl⟩)).1
    -- the list of odd rows
    have s6 : ev G cl (.lst (.cons (.tup (.cons (.ix (.var 5) (.int 0)) (.cons (.ix (.var 5) (.int 1)) (.cons (.str "star") (.cons (.int 9) .nil))))) (.cons (.tup (.cons (.ix (.var 5) (.int 0)) (.cons (.ix (.var 5) (.int 1)) (.cons (.str "under") (.cons (.int 9) .nil))))) (.cons (.tup (.cons (.bin .add (.ix (.var 5) (.int 0)) (.int 1)) (.cons (.bin .add (.ix (.var 5) (.int 1)) (.int 20)) (.cons (.str "star") (.cons (.int 1) .nil))))) .nil)))) [some (.ref 0), some (.ref a), some (.ref d), some (.ref b), some (.int n), some (rwD o), none, none, none, none, none, none, none, none, none] h = .ok (.ref h.length) (h ++ [.lst ((odds o).map rwD)]) := by
      simp only [evLst, evsCons, evsNil, evTup, evIx, evVar, evStr, evInt, evBin, List.getElem?_cons_succ, ge0, bindOk, rw0, rw1, bAdd, List.length_cons, List.length_nil, Nat.reduceAdd, Nat.reduceLeDiff, if_true]
      rfl
    have k6 : Kp h (h ++ [.lst ((odds o).map rwD)]) := Kp.app _ _
    have x6 : lstAt (h ++ [.lst ((odds o).map rwD)]) h.length = some ((odds o).map rwD) := lstAt_last _ _
    generalize h.length = p6 at s6 x6
    generalize h ++ [.lst ((odds o).map rwD)] = h6 at s6 x6 k6
    -- the rest
    have e1 := slU_ok (i := (n : Int)) (k6.lst hb) (by omega)
    rw [Int.toNat_natCast, ← List.map_take, hA] at e1
    have k7 : Kp h6 (h6 ++ [.lst (A.map rwD)]) := Kp.app _ _
    have e2 := slL_ok (i := (n : Int) + 1) (k7.lst (k6.lst hb)) (by omega)
    rw [show ((n : Int) + 1).toNat = n + 1 by omega, ← List.map_drop, hB] at e2
    have y7 : (h6 ++ [.lst (A.map rwD)])[h6.length]? = some (.lst (A.map rwD)) := get_last _ _
    have y8 : ((h6 ++ [.lst (A.map rwD)]) ++ [.lst (B.map rwD)])[(h6 ++ [O.lst (A.map rwD)]).length]? = some (.lst (B.map rwD)) := get_last _ _
    have k8 : Kp (h6 ++ [.lst (A.map rwD)]) ((h6 ++ [.lst (A.map rwD)]) ++ [.lst (B.map rwD)]) := Kp.app _ _
    have e3 := bAddL (k8 _ _ y7) y8 (by simp at lAB ⊢; omega)
    rw [← List.map_append] at e3
    have s7 : ev G cl (.bin .add (.slU (.var 3) (.var 4)) (.slL (.var 3) (.bin .add (.var 4) (.int 1)))) [some (.ref 0), some (.ref a), some (.ref d), some (.ref b), some (.int n), some (rwD o), some (.ref p6), none, none, none, none, none, none, none, none] h6 = .ok (.ref ((h6 ++ [O.lst (A.map rwD)]) ++ [O.lst (B.map rwD)]).length) (((h6 ++ [.lst (A.map rwD)]) ++ [.lst (B.map rwD)]) ++ [.lst ((A ++ B).map rwD)]) := by
      simp only [evBin, evSlU, evSlL, evVar, evInt, List.getElem?_cons_succ, ge0, bindOk, e1, bAdd, e2, e3]
    have k9 : Kp h6 (((h6 ++ [.lst (A.map rwD)]) ++ [.lst (B.map rwD)]) ++ [.lst ((A ++ B).map rwD)]) := (k7.trans k8).trans (Kp.app _ _)
    have y9 : (((h6 ++ [.lst (A.map rwD)]) ++ [.lst (B.map rwD)]) ++ [.lst ((A ++ B).map rwD)])[((h6 ++ [O.lst (A.map rwD)]) ++ [O.lst (B.map rwD)]).length]? = some (.lst ((A ++ B).map rwD)) := get_last _ _
    generalize ((h6 ++ [O.lst (A.map rwD)]) ++ [O.lst (B.map rwD)]).length = p7 at s7 y9
    generalize ((h6 ++ [O.lst (A.map rwD)]) ++ [O.lst (B.map rwD)]) ++ [O.lst ((A ++ B).map rwD)] = h9 at s7 y9 k9
    clear e1 e2 e3 y7 y8 k7 k8
    have D7 := Q.ix (k6.trans k9) 7 (by omega)
    have x8 : ∃ rest p8 h10, rest ≠ [] ∧ UP rest ∧ rest.length ≤ 17 ∧ Kp h9 h10 ∧ lstAt h10 p8 = some (rest.map rwD) ∧ xs G cl W alt8 [some (.ref 0), some (.ref a), some (.ref d), some (.ref b), some (.int n), some (rwD o), some (.ref p6), some (.ref p7), none, none, none, none, none, none, none] h9 = .ok (.nx [some (.ref 0), some (.ref a), some (.ref d), some (.ref b), some (.int n), some (rwD o), some (.ref p6), some (.ref p8), none, none, none, none, none, none, none]) h10 := by
      have hc : ∃ c8, ev G cl (.or (.not (.var 7)) (.cmp .lt (.bin .mod (.ix (.var 2) (.int 7)) (.int 4)) (.int 3))) [some (.ref 0), some (.ref a), some (.ref d), some (.ref b), some (.int n), some (rwD o), some (.ref p6), some (.ref p7), none, none, none, none, none, none, none] h9 = .ok (.bl c8) h9 ∧ (c8 = false → A ++ B ≠ []) := by
        have t7 : truD (.ref p7) h9 = some (!((A ++ B).map rwD).isEmpty) := by
          show (match lstAt h9 p7 with | some l => some (!l.isEmpty) | none => none) = _
          rw [lstAt_of y9]
        have t8 : ev G cl (.not (.var 7)) [some (.ref 0), some (.ref a), some (.ref d), some (.ref b), some (.int n), some (rwD o), some (.ref p6), some (.ref p7), none, none, none, none, none, none, none] h9 = .ok (.bl ((A ++ B).map rwD).isEmpty) h9 := by
          rw [evNot, evV (x := .ref p7) rfl, bindOk, t7]
          show Rs.ok (D.bl (!!((A ++ B).map rwD).isEmpty)) h9 = _
          rw [Bool.not_not]
        cases z : ((A ++ B).map rwD).isEmpty with
        | true =>
          rw [z] at t8
          exact ⟨true, by rw [evOr, t8, bindOk, tBl], fun y => by cases y⟩
        | false =>
          rw [z] at t8
          refine ⟨decide (Row.R row 7 % 4 < 3), ?_, fun _ y => by rw [y] at z; cases z⟩
          rw [evOr, t8, bindOk, tBl]
          exact evCmp2 (evBin2 (evIxV (x := .ref d) rfl (evInt ..) D7) (evInt ..) (md (by decide) _ _)) (evInt ..) (cLt ..)
      obtain ⟨c8, ec, hc⟩ := hc
      cases c8 with
      | false => exact ⟨A ++ B, p7, h9, hc rfl, UPab, by omega, .refl _, lstAt_of y9, by rw [xsIffF ec, xssNil]⟩
      | true =>
        obtain ⟨j, ej, hj⟩ : ∃ j : Nat, Row.R row 7 % 3 = (j : Int) ∧ j < 3 := ⟨(Row.R row 7 % 3).toNat, by omega, by omega⟩
        obtain ⟨w, ew⟩ : ∃ w, (odds o)[j]? = some w := ⟨_, List.getElem?_eq_getElem (by simpa [odds] using hj)⟩
        have iw : ixD (.ref p6) (.int (Row.R row 7 % 3)) h9 = .ok (rwD w) h9 := by rw [ej, iRef _ _ (k9.lst x6), atI_nat (v := rwD w) (by rw [List.getElem?_map, ew]; rfl)]
        have e5 : ev G cl (.ix (.var 6) (.bin .mod (.ix (.var 2) (.int 7)) (.int 3))) [some (.ref 0), some (.ref a), some (.ref d), some (.ref b), some (.int n), some (rwD o), some (.ref p6), some (.ref p7), none, none, none, none, none, none, none] h9 = .ok (rwD w) h9 := evIxV (x := .ref p6) rfl (evBin2 (evIxV (x := .ref d) rfl (evInt ..) D7) (evInt ..) (md (by decide) _ _)) iw
        have kA : Kp h9 (h9 ++ [.lst [rwD w]]) := Kp.app _ _
        have e6 := bAddL (kA _ _ y9) (get_last h9 (.lst [rwD w])) (by simp at lAB ⊢; omega)
        refine ⟨A ++ B ++ [w], (h9 ++ [O.lst [rwD w]]).length, (h9 ++ [.lst [rwD w]]) ++ [.lst ((A ++ B).map rwD ++ [rwD w])], by simp, UPw w (List.mem_of_getElem? ew), by simp at lAB ⊢; omega, kA.trans (Kp.app _ _), by rw [lstAt_last]; simp, ?_⟩
        rw [xsIffT ec, xssNx (r' := [some (.ref 0), some (.ref a), some (.ref d), some (.ref b), some (.int n), some (rwD o), some (.ref p6), some (.ref (h9 ++ [O.lst [rwD w]]).length), none, none, none, none, none, none, none]) (h' := (h9 ++ [.lst [rwD w]]) ++ [.lst ((A ++ B).map rwD ++ [rwD w])]) (xsAsgV (by
          rw [evBin, evV (x := .ref p7) rfl, bindOk, evLst, evsCons, e5, bindOk, evsNil, bindOk, bindOk]
          simp only [List.length_cons, List.length_nil, Nat.reduceAdd, Nat.reduceLeDiff, if_true, bindOk]
          exact e6)), xssNil]
    obtain ⟨rest, p8, h10, r1, r2, r3, k10, x10, x8⟩ := x8
    have es := srtL_rows x10 r2 (by omega)
    refine ⟨h10 ++ [.lst ((srt rest).map rwD)], h10.length, srt rest, some (.int n), some (rwD o), some (.ref p6), some (.ref p8), ?_, ((k6.trans k9).trans k10).trans (Kp.app _ _), lstAt_last _ _, r2.perm (srt_perm rest).symm, fun z => ?_, by rw [srt_len]; exact r3⟩
    · rw [xsIffT c1, xssNx (r' := [some (.ref 0), some (.ref a), some (.ref d), some (.ref b), some (.int n), none, none, none, none, none, none, none, none, none, none]) (h' := h) (xsAsgV s4),
        xssNx (r' := [some (.ref 0), some (.ref a), some (.ref d), some (.ref b), some (.int n), some (rwD o), none, none, none, none, none, none, none, none, none]) (h' := h) (xsAsgV (evIxV (x := .ref b) rfl (evV rfl) io)),
        xssNx (r' := [some (.ref 0), some (.ref a), some (.ref d), some (.ref b), some (.int n), some (rwD o), some (.ref p6), none, none, none, none, none, none, none, none]) (h' := h6) (xsAsgV s6),
        xssNx (r' := [some (.ref 0), some (.ref a), some (.ref d), some (.ref b), some (.int n), some (rwD o), some (.ref p6), some (.ref p7), none, none, none, none, none, none, none]) (h' := h9) (xsAsgV s7),
        xssNx x8,
        xssNx (r' := [some (.ref 0), some (.ref a), some (.ref d), some (.ref h10.length), some (.int n), some (rwD o), some (.ref p6), some (.ref p8), none, none, none, none, none, none, none]) (h' := h10 ++ [.lst ((srt rest).map rwD)]) (xsAsgV (by simp only [evBlt, evsCons, evsNil, evVar, List.getElem?_cons_succ, ge0, bindOk, es])), xssNil]
    · have := srt_len rest
      rw [z] at this
      exact r1 (List.length_eq_zero_iff.mp this.symm)
  · have c1 := evCmp2 (op := .eq) a1 (evInt ..) (show cmpD .eq (.int (Row.R row 5 % 3)) (.int 1) h = .ok (.bl false) h by rw [cEqI, decide_eq_false c])
    exact ⟨h, b, other, none, none, none, none, by rw [xsIffF c1, xssNil], .refl _, hb, u, hn, by omega⟩
end
end Ng
end
section
set_option Elab.async false
set_option linter.all false
set_option maxRecDepth 100000
set_option maxHeartbeats 4000000
set_option autoImplicit false
namespace Ng
open PySem L2
section
variable {G : Gs} {cl : Cl} {W : Nat}
def fndM (one other : List Rw) (t : Nat) (o : Rw) (l : List Rw) : List M3 := (l.filter fun r => decide (led (cand t o r) other = one)).map (cand t o)
def inM (h0 : Hh) (a d b : Nat) (D0 : List M3) (one other : List Rw) (t : Nat) (o : Rw) (i : Nat) (r : Ev) (h : Hh) : Prop :=
  Kp h0 h ∧ (∃ d4 d5 d6 d7 d12, r = [some (.ref 0), some (.ref a), some (.ref d), some (.ref b), d4, d5, d6, d7, some (.ref h0.length), some (.int t), some (.int (tx t o.1 o.2.1)), some (.int (ty t o.1 o.2.1)), d12, none, none]) ∧ h[h0.length]? = some (.lst ((D0 ++ fndM one other t o (one.take i)).map mo))
theorem in_turn (hrl : Led cl 17) {h0 : Hh} {a d b : Nat} {D0 : List M3} {one other : List Rw} (ha : lstAt h0 a = some (one.map rwD)) (hb : lstAt h0 b = some (other.map rwD)) (u2 : UP other) (l2 : other.length < 64) (l1 : one.length < 64) (lD : D0.length ≤ 100) {t : Nat} (ht : t < 8) {o : Rw} (i : Nat) (x : D) (hx : (one.map rwD)[i]? = some x) (r : Ev) (h : Hh) (I : inM h0 a d b D0 one other t o i r h) :
    ∃ r1, setT (.nm 5) x r = some r1 ∧ ((∃ r2 h2, xss G cl W inL r1 h = .ok (.nx r2) h2 ∧ inM h0 a d b D0 one other t o (i + 1) r2 h2) ∨ ∃ d h2, xss G cl W inL r1 h = .ok (.rt d) h2 ∧ False) := by
  obtain ⟨kp, ⟨d4, d5, d6, d7, d12, rfl⟩, hp⟩ := I
  rw [List.getElem?_map, Option.map_eq_some_iff] at hx
  obtain ⟨w, hw, rfl⟩ := hx
  have hi : i < one.length := (List.getElem?_eq_some_iff.mp hw).1
  have etk : one.take (i + 1) = one.take i ++ [w] := by rw [List.take_succ, hw]; rfl
  have o8 : ok8 (cand t o w) := ⟨by show (0 : Int) ≤ t; omega, by show (t : Int) < 8; omega⟩
  obtain ⟨g, k, e1, l3, c1⟩ := hrl b (cand t o w) other h o8 (kp.lst hb) u2 l2
  have k1 : Kp h (h ++ g) := Kp.app _ _
  have ec := cEqR (lstAt_of c1) ((kp.trans k1).lst ha)
  have lf : (fndM one other t o (one.take i)).length ≤ 64 := by
    unfold fndM
    rw [List.length_map]
    exact Nat.le_trans (List.length_filter_le _ _) (by simp; omega)
  have s12 : ev G cl (.tup (.cons (.var 9) (.cons (.bin .sub (.ix (.var 5) (.int 0)) (.var 10)) (.cons (.bin .sub (.ix (.var 5) (.int 1)) (.var 11)) .nil)))) [some (.ref 0), some (.ref a), some (.ref d), some (.ref b), d4, some (rwD w), d6, d7, some (.ref h0.length), some (.int t), some (.int (tx t o.1 o.2.1)), some (.int (ty t o.1 o.2.1)), d12, none, none] h = .ok (mo (cand t o w)) h := by
    generalize htx : tx t o.1 o.2.1 = X
    generalize hty : ty t o.1 o.2.1 = Y
    simp only [evTup, evsCons, evsNil, evBin, evIx, evVar, evInt, List.getElem?_cons_succ, ge0, bindOk, rw0, rw1, bSub, List.length_cons, List.length_nil, Nat.reduceAdd, Nat.reduceLeDiff, if_true, mo, cand, htx, hty]
  have cond : ev G cl (.cmp .eq (.call 17 (.cons (.var 3) (.cons (.var 12) .nil))) (.var 1)) [some (.ref 0), some (.ref a), some (.ref d), some (.ref b), d4, some (rwD w), d6, d7, some (.ref h0.length), some (.int t), some (.int (tx t o.1 o.2.1)), some (.int (ty t o.1 o.2.1)), some (mo (cand t o w)), none, none] h = .ok (.bl (decide (led (cand t o w) other = one))) (h ++ g) := by
    refine evCmp2 (x := .ref k) (y := .ref a) (h1 := h ++ g) (h2 := h ++ g) ?_ (evV rfl) ec
    simp only [evCall, evsCons, evsNil, evVar, List.getElem?_cons_succ, ge0, bindOk, e1, nxOk]
  refine ⟨_, rfl, .inl ?_⟩
  show ∃ r2 h2, xss G cl W inL [some (.ref 0), some (.ref a), some (.ref d), some (.ref b), d4, some (rwD w), d6, d7, some (.ref h0.length), some (.int t), some (.int (tx t o.1 o.2.1)), some (.int (ty t o.1 o.2.1)), d12, none, none] h = .ok (.nx r2) h2 ∧ inM h0 a d b D0 one other t o (i + 1) r2 h2
  have hp1 := k1 _ _ hp
  by_cases c : led (cand t o w) other = one
  · rw [decide_eq_true c] at cond
    have ea := app_ok (mo (cand t o w)) hp1 (by rw [List.length_map, List.length_append]; omega)
    refine ⟨[some (.ref 0), some (.ref a), some (.ref d), some (.ref b), d4, some (rwD w), d6, d7, some (.ref h0.length), some (.int t), some (.int (tx t o.1 o.2.1)), some (.int (ty t o.1 o.2.1)), some (mo (cand t o w)), none, none], (h ++ g).set h0.length (.lst ((D0 ++ fndM one other t o (one.take i)).map mo ++ [mo (cand t o w)])), ?_, (kp.trans k1).set _ (Nat.le_refl _), ⟨_, _, _, _, _, rfl⟩, ?_⟩
    · rw [xssNx (r' := [some (.ref 0), some (.ref a), some (.ref d), some (.ref b), d4, some (rwD w), d6, d7, some (.ref h0.length), some (.int t), some (.int (tx t o.1 o.2.1)), some (.int (ty t o.1 o.2.1)), some (mo (cand t o w)), none, none]) (h' := h) (xsAsgV s12),
        xssNx (r' := [some (.ref 0), some (.ref a), some (.ref d), some (.ref b), d4, some (rwD w), d6, d7, some (.ref h0.length), some (.int t), some (.int (tx t o.1 o.2.1)), some (.int (ty t o.1 o.2.1)), some (mo (cand t o w)), none, none]) (h' := (h ++ g).set h0.length (.lst ((D0 ++ fndM one other t o (one.take i)).map mo ++ [mo (cand t o w)]))) (by
          rw [xsIffT cond, xssNx (r' := [some (.ref 0), some (.ref a), some (.ref d), some (.ref b), d4, some (rwD w), d6, d7, some (.ref h0.length), some (.int t), some (.int (tx t o.1 o.2.1)), some (.int (ty t o.1 o.2.1)), some (mo (cand t o w)), none, none]) (h' := (h ++ g).set h0.length (.lst ((D0 ++ fndM one other t o (one.take i)).map mo ++ [mo (cand t o w)]))) (by
            simp only [xsEx, evApp, evVar, List.getElem?_cons_succ, ge0, bindOk, isLstR, lstAt_of hp1, Option.isSome_some, if_true, ea, nxOk]), xssNil]), xssNil]
    · rw [List.getElem?_set_self (List.getElem?_eq_some_iff.mp hp1).1, etk]
      congr 2
      unfold fndM
      rw [List.filter_append, List.filter_cons, if_pos (decide_eq_true c), List.filter_nil]
      simp only [List.map_append, List.map_cons, List.map_nil, List.append_assoc]
  · rw [decide_eq_false c] at cond
    refine ⟨[some (.ref 0), some (.ref a), some (.ref d), some (.ref b), d4, some (rwD w), d6, d7, some (.ref h0.length), some (.int t), some (.int (tx t o.1 o.2.1)), some (.int (ty t o.1 o.2.1)), some (mo (cand t o w)), none, none], h ++ g, ?_, kp.trans k1, ⟨_, _, _, _, _, rfl⟩, ?_⟩
    · rw [xssNx (r' := [some (.ref 0), some (.ref a), some (.ref d), some (.ref b), d4, some (rwD w), d6, d7, some (.ref h0.length), some (.int t), some (.int (tx t o.1 o.2.1)), some (.int (ty t o.1 o.2.1)), some (mo (cand t o w)), none, none]) (h' := h) (xsAsgV s12),
        xssNx (r' := [some (.ref 0), some (.ref a), some (.ref d), some (.ref b), d4, some (rwD w), d6, d7, some (.ref h0.length), some (.int t), some (.int (tx t o.1 o.2.1)), some (.int (ty t o.1 o.2.1)), some (mo (cand t o w)), none, none]) (h' := h ++ g) (by rw [xsIffF cond, xssNil]), xssNil]
    · rw [hp1, etk]
      unfold fndM
      rw [List.filter_append, List.filter_cons, if_neg (by rw [decide_eq_false c]; exact Bool.false_ne_true), List.filter_nil, List.append_nil]
def duI (h0 : Hh) (a d b : Nat) (one other : List Rw) (i : Nat) (r : Ev) (h : Hh) : Prop :=
  Kp h0 h ∧ (∃ d4 d5 d6 d7 d9 d10 d11 d12, r = [some (.ref 0), some (.ref a), some (.ref d), some (.ref b), d4, d5, d6, d7, some (.ref h0.length), d9, d10, d11, d12, none, none]) ∧ h[h0.length]? = some (.lst ((mts one other i).map mo))
theorem du_turn (hW : 100 ≤ W) (hrl : Led cl 17) (hlt : Ltn cl 12) {h0 : Hh} {a d b : Nat} {one : List Rw} {o : Rw} {os : List Rw} (ha : lstAt h0 a = some (one.map rwD)) (hb : lstAt h0 b = some ((o :: os).map rwD)) (u1 : UP one) (u2 : UP (o :: os)) (l2 : (o :: os).length < 64) (l1 : one.length < 64) (t : Nat) (ht : t < 8) (r : Ev) (h : Hh) (I : duI h0 a d b one (o :: os) t r h) :
    ∃ r1 r2 h2, setT (.nm 9) (.int t) r = some r1 ∧ xss G cl W duL r1 h = .ok (.nx r2) h2 ∧ duI h0 a d b one (o :: os) (t + 1) r2 h2 := by
  obtain ⟨kp, ⟨d4, d5, d6, d7, d9, d10, d11, d12, rfl⟩, hp⟩ := I
  obtain ⟨g, e1⟩ := hlt (t : Int) o.1 o.2.1 h (by omega) (by omega)
  have k1 : Kp h (h ++ g) := Kp.app _ _
  have i0 : ixD (.ref b) (.int 0) h = .ok (rwD o) h := by
    have z : atI ((o :: os).map rwD) 0 = some (rwD o) := atI_nat (j := 0) rfl
    rw [iRef _ _ (kp.lst hb), z]
  have lD := mts_len one (o :: os) t
  have loop := forI_gen (t := .nm 5) (body := xss G cl W inL) (n := a) (l := one.map rwD) (inM h0 a d b (mts one (o :: os) t) one (o :: os) t o) (fun _ _ => False) (fun i r h I => I.1.lst ha)
    (fun i x hx r h I => in_turn hrl ha hb u2 l2 l1 (by omega) ht i x hx r h I) W 0 [some (.ref 0), some (.ref a), some (.ref d), some (.ref b), d4, d5, d6, d7, some (.ref h0.length), some (.int t), some (.int (tx t o.1 o.2.1)), some (.int (ty t o.1 o.2.1)), d12, none, none] (h ++ g)
    ⟨kp.trans k1, ⟨_, _, _, _, _, rfl⟩, by
      rw [k1 _ _ hp]
      simp [fndM]⟩ (Nat.zero_le _) (by simp; omega)
  rcases loop with ⟨r', h', e3, ⟨kp2, ⟨e4, e5, e6, e7, e12, er⟩, hp2⟩⟩ | ⟨_, _, _, z⟩
  · subst er
    rw [List.length_map, List.take_length] at hp2
    refine ⟨_, [some (.ref 0), some (.ref a), some (.ref d), some (.ref b), e4, e5, e6, e7, some (.ref h0.length), some (.int t), some (.int (tx t o.1 o.2.1)), some (.int (ty t o.1 o.2.1)), e12, none, none], h', rfl, ?_, kp2, ⟨_, _, _, _, _, _, _, _, rfl⟩, ?_⟩
    · show xss G cl W duL [some (.ref 0), some (.ref a), some (.ref d), some (.ref b), d4, d5, d6, d7, some (.ref h0.length), some (.int t), d10, d11, d12, none, none] h = _
      rw [xssNx (r' := [some (.ref 0), some (.ref a), some (.ref d), some (.ref b), d4, d5, d6, d7, some (.ref h0.length), some (.int t), some (.int (tx t o.1 o.2.1)), some (.int (ty t o.1 o.2.1)), d12, none, none]) (h' := h ++ g) (by
          have ec : ev G cl (.call 12 (.cons (.var 9) (.cons (.ix (.ix (.var 3) (.int 0)) (.int 0)) (.cons (.ix (.ix (.var 3) (.int 0)) (.int 1)) .nil)))) [some (.ref 0), some (.ref a), some (.ref d), some (.ref b), d4, d5, d6, d7, some (.ref h0.length), some (.int t), d10, d11, d12, none, none] h = .ok (.tup [.int (tx t o.1 o.2.1), .int (ty t o.1 o.2.1)]) (h ++ g) := by
            simp only [evCall, evsCons, evsNil, evIx, evVar, evInt, List.getElem?_cons_succ, ge0, bindOk, i0, rw0, rw1, e1, nxOk]
          rw [xsAsg, ec]; rfl),
        xssNx (r' := [some (.ref 0), some (.ref a), some (.ref d), some (.ref b), e4, e5, e6, e7, some (.ref h0.length), some (.int t), some (.int (tx t o.1 o.2.1)), some (.int (ty t o.1 o.2.1)), e12, none, none]) (h' := h') (by
          rw [xsForS, evV (x := .ref a) rfl]
          exact e3), xssNil]
    · rw [hp2, mts_succ]
      unfold fndM
      rw [cands u1 List.mem_cons_self]
  · exact z.elim
def Smm (cl : Cl) (f : Nat) : Prop := ∀ (a b : Nat) (l : List M3) (h : Hh), lstAt h a = some (l.map mo) → lstAt h b = some (l.map mo) → l.length ≤ 1000 → cl f [.ref a, .ref b] h = .ok (.bl true) h
def Smh (cl : Cl) (f : Nat) : Prop := ∀ (p q a b c d : Nat) (l m : List Rw) (h : Hh), lstAt h p = some [.ref a, .ref b] → lstAt h q = some [.ref c, .ref d] → lstAt h a = some (l.map rwD) → lstAt h c = some (l.map rwD) → lstAt h b = some (m.map rwD) → lstAt h d = some (m.map rwD) → l.length ≤ 1000 → m.length ≤ 1000 → cl f [.ref p, .ref q] h = .ok (.bl true) h
def Mth (cl : Cl) (f : Nat) : Prop := ∀ (a b : Nat) (one other : List Rw) (h : Hh), lstAt h a = some (one.map rwD) → lstAt h b = some (other.map rwD) → one ≠ [] → other ≠ [] → UP one → UP other → one.length < 64 → other.length < 64 → srt one = one → ∃ h' k, cl f [.ref a, .ref b] h = .ok (.ref k) h' ∧ Kp h h' ∧ h'[k]? = some (.lst ((mts one other 8).map mo))
def Mtn8 (cl : Cl) (f : Nat) : Prop := ∀ (k : Nat) (row : List Int) (h : Hh), lstAt h k = some (row.map D.int) → 5 ≤ row.length → InR row → ∃ m, ok8 m ∧ cl f [.ref k, .int 0] h = .ok (mo m) h
def Rof2 (cl : Cl) (f : Nat) (ns : List Int) : Prop := ∀ (h : Hh), lstAt h 0 = some (ns.map D.int) → ∃ h' k l, cl f [.ref 0] h = .ok (.ref k) h' ∧ Kp h h' ∧ h.length ≤ k ∧ h'[k]? = some (.lst (l.map rwD)) ∧ l ≠ [] ∧ l.length ≤ 16 ∧ UP l ∧ srt l = l ∧ Nr l
theorem spread {m : M3} {l : List Rw} (hN : Nr l) : ∀ r ∈ led m l, ∀ s ∈ led m l, s.2.1 - r.2.1 < 20 := by
  have : ∀ r ∈ led m l, -3 ≤ r.2.1 - m.2.2 ∧ r.2.1 - m.2.2 ≤ 3 := fun r hr => by
    obtain ⟨x, hx, rfl⟩ := List.mem_map.mp ((srt_perm (l.map (mv m))).mem_iff.mp hr)
    have q := N3.turn (t := m.1) (hN x hx)
    unfold N3 at q
    show -3 ≤ ty m.1 x.1 x.2.1 + m.2.2 - m.2.2 ∧ ty m.1 x.1 x.2.1 + m.2.2 - m.2.2 ≤ 3
    omega
  intro r hr s hs
  have a := this r hr
  have b := this s hs
  omega
theorem lm_ok (hW : 100 ≤ W) {ns : List Int} (hro : Rof2 cl 18 ns) (hd : Drs cl 10 ns) (hrl : Led cl 17) (hlt : Ltn cl 12) (hmt : Mth cl 9) (hsm : Smm cl 15) (hsh : Smh cl 15) (hmo : Mtn8 cl 14) (h : Hh) (h00 : lstAt h 0 = some (ns.map D.int)) :
    ∃ h', (xss G cl W lmB [some (.ref 0), none, none, none, none, none, none, none, none, none, none, none, none, none, none] h).bind endD = .ok (.bl true) h' := by
  obtain ⟨h1, a, one, e1, k1, l1, c1, hn, hl, u, hs, hN⟩ := hro h h00
  obtain ⟨row, e2, e3, e4⟩ := hd 17 8 h1 (by decide) (by decide) (by decide) (k1.lst h00)
  have e4' : cl 10 [.ref 0, .int 17, .int 8] h1 = .ok (.ref h1.length) (h1 ++ [.lst (row.map D.int)]) := e4
  have k2 : Kp h1 (h1 ++ [.lst (row.map D.int)]) := Kp.app _ _
  have Q : Row (h1 ++ [.lst (row.map D.int)]) h1.length row := ⟨lstAt_last _ _, e3⟩
  generalize h1.length = d at e4' Q
  generalize h1 ++ [.lst (row.map D.int)] = h2 at e4' k2 Q
  obtain ⟨m, om, em⟩ := hmo d row h2 Q.at' (by omega) e3
  have ha2 := k2.lst (lstAt_of c1)
  obtain ⟨g3, b0, e5, l5, c5⟩ := hrl a m one h2 om ha2 u (by omega)
  have k3 : Kp h2 (h2 ++ g3) := Kp.app _ _
  generalize h2 ++ g3 = h3 at e5 c5 k3
  have ln := led_len m one
  have lne : led m one ≠ [] := fun z => by rw [z] at ln; exact hn (List.length_eq_zero_iff.mp ln.symm)
  have Q3 : Row h3 d row := ⟨k3.lst Q.at', e3⟩
  obtain ⟨h4, b, other, d4, d5, d6, d7, e6, k4, hb4, u4, n4, l4⟩ := alt_ok (G := G) (cl := cl) (W := W) (a := a) Q3 e2 (lstAt_of c5) (led_UP om u) lne (by omega) (spread hN)
  have ha4 := (k3.trans k4).lst ha2
  cases other with
  | nil => exact absurd rfl n4
  | cons o os =>
    obtain ⟨r', h5, e7, ⟨k5, ⟨f4, f5, f6, f7, f9, f10, f11, f12, er⟩, hp⟩⟩ := forS_inv (t := .nm 9) (body := xss G cl W duL) (duI h4 a d b one (o :: os)) (rngD 0 (8 : Nat)) 0
      (fun i dd hi r hh I => by
        rw [Nat.zero_add] at I ⊢
        have hij : i < 8 := by have := (List.getElem?_eq_some_iff.mp hi).1; rwa [rngD_len] at this
        rw [rngD_get 8 i hij] at hi
        cases hi
        exact du_turn hW hrl hlt ha4 hb4 u u4 (by omega) (by omega) i hij r hh I)
      [some (.ref 0), some (.ref a), some (.ref d), some (.ref b), d4, d5, d6, d7, some (.ref h4.length), none, none, none, none, none, none] (h4 ++ [.lst []]) ⟨Kp.app _ _, ⟨_, _, _, _, _, _, _, _, rfl⟩, by simp [mts]⟩
    subst er
    rw [Nat.zero_add, rngD_len] at hp
    generalize hpe : h4.length = p at e7 hp
    have ha5 := k5.lst ha4
    have hb5 := k5.lst hb4
    -- the lists handed in
    have kA : Kp h5 (((h5 ++ [.lst (one.map rwD)]) ++ [.lst ((o :: os).map rwD)]) ++ [.lst [.ref h5.length, .ref (h5 ++ [O.lst (one.map rwD)]).length]]) := ((Kp.app _ _).trans (Kp.app _ _)).trans (Kp.app _ _)
    have hb6 : lstAt (h5 ++ [.lst (one.map rwD)]) b = some ((o :: os).map rwD) := lstAt_app _ _ hb5
    have s13 : ev G cl (.lst (.cons (.blt .list (.cons (.var 1) .nil)) (.cons (.blt .list (.cons (.var 3) .nil)) .nil))) [some (.ref 0), some (.ref a), some (.ref d), some (.ref b), f4, f5, f6, f7, some (.ref p), f9, f10, f11, f12, none, none] h5 = .ok (.ref ((h5 ++ [O.lst (one.map rwD)]) ++ [O.lst ((o :: os).map rwD)]).length) (((h5 ++ [.lst (one.map rwD)]) ++ [.lst ((o :: os).map rwD)]) ++ [.lst [.ref h5.length, .ref (h5 ++ [O.lst (one.map rwD)]).length]]) := by
      simp only [evLst, evsCons, evsNil, evBlt, evVar, List.getElem?_cons_succ, ge0, bindOk, bList, sRef, ha5, hb6, List.length_cons, List.length_nil, Nat.reduceAdd, Nat.reduceLeDiff, if_true]
    have y1 : lstAt (((h5 ++ [.lst (one.map rwD)]) ++ [.lst ((o :: os).map rwD)]) ++ [.lst [.ref h5.length, .ref (h5 ++ [O.lst (one.map rwD)]).length]]) h5.length = some (one.map rwD) := lstAt_app _ _ (lstAt_app _ _ (lstAt_last _ _))
    have y2 : lstAt (((h5 ++ [.lst (one.map rwD)]) ++ [.lst ((o :: os).map rwD)]) ++ [.lst [.ref h5.length, .ref (h5 ++ [O.lst (one.map rwD)]).length]]) (h5 ++ [O.lst (one.map rwD)]).length = some ((o :: os).map rwD) := lstAt_app _ _ (lstAt_last _ _)
    have y3 : lstAt (((h5 ++ [.lst (one.map rwD)]) ++ [.lst ((o :: os).map rwD)]) ++ [.lst [.ref h5.length, .ref (h5 ++ [O.lst (one.map rwD)]).length]]) ((h5 ++ [O.lst (one.map rwD)]) ++ [O.lst ((o :: os).map rwD)]).length = some [.ref h5.length, .ref (h5 ++ [O.lst (one.map rwD)]).length] := lstAt_last _ _
    generalize ((h5 ++ [O.lst (one.map rwD)]) ++ [O.lst ((o :: os).map rwD)]) ++ [O.lst [D.ref h5.length, D.ref (h5 ++ [O.lst (one.map rwD)]).length]] = h6 at s13 y1 y2 y3 kA
    generalize ((h5 ++ [O.lst (one.map rwD)]) ++ [O.lst ((o :: os).map rwD)]).length = hd' at s13 y3
    generalize (h5 ++ [O.lst (one.map rwD)]).length = hb' at s13 y2 y3
    generalize h5.length = ha' at s13 y1 y3
    obtain ⟨h7, fk, e8, k7, c7⟩ := hmt ha' hb' one (o :: os) h6 y1 y2 hn n4 u u4 (by omega) (by omega) hs
    have i0 : ixD (.ref hd') (.int 0) h6 = .ok (.ref ha') h6 := by rw [iRef _ _ y3]; rfl
    have i1 : ixD (.ref hd') (.int 1) h6 = .ok (.ref hb') h6 := by rw [iRef _ _ y3]; rfl
    have es := srt_mts ((kA.trans k7).lst (lstAt_of hp))
    have k8 : Kp h7 (h7 ++ [.lst ((mts one (o :: os) 8).map mo)]) := Kp.app _ _
    have sm1 := hsm fk h7.length (mts one (o :: os) 8) (h7 ++ [.lst ((mts one (o :: os) 8).map mo)]) (k8.lst (lstAt_of c7)) (lstAt_last _ _) (by have := mts_len one (o :: os) 8; omega)
    have k68 := k7.trans k8
    have x8 : lstAt (h7 ++ [.lst ((mts one (o :: os) 8).map mo)]) h7.length = some ((mts one (o :: os) 8).map mo) := lstAt_last _ _
    generalize h7.length = sk at es sm1 x8
    generalize h7 ++ [.lst ((mts one (o :: os) 8).map mo)] = h8 at es k8 sm1 k68 x8
    have k9 : Kp h8 (h8 ++ [.lst [.ref a, .ref b]]) := Kp.app _ _
    have sm2 := hsh hd' h8.length ha' hb' a b one (o :: os) (h8 ++ [.lst [.ref a, .ref b]]) ((k68.trans k9).lst y3) (lstAt_last _ _) ((k68.trans k9).lst y1) (((kA.trans k68).trans k9).lst ha5) ((k68.trans k9).lst y2) (((kA.trans k68).trans k9).lst hb5) (by omega) (by omega)
    refine ⟨h8 ++ [.lst [.ref a, .ref b]], ?_⟩
    rw [xssNx (r' := [some (.ref 0), some (.ref a), none, none, none, none, none, none, none, none, none, none, none, none, none]) (h' := h1) (xsAsgV (evC1 rfl e1)),
      xssNx (r' := [some (.ref 0), some (.ref a), some (.ref d), none, none, none, none, none, none, none, none, none, none, none, none]) (h' := h2) (xsAsgV (by simp only [evCall, evsCons, evsNil, evVar, evInt, ge0, bindOk, e4', nxOk])),
      xssNx (r' := [some (.ref 0), some (.ref a), some (.ref d), some (.ref b0), none, none, none, none, none, none, none, none, none, none, none]) (h' := h3) (xsAsgV (by simp only [evCall, evsCons, evsNil, evVar, evInt, List.getElem?_cons_succ, ge0, bindOk, em, nxOk, e5])),
      xssNx e6,
      xssNx (r' := [some (.ref 0), some (.ref a), some (.ref d), some (.ref b), d4, d5, d6, d7, some (.ref p), none, none, none, none, none, none]) (h' := h4 ++ [.lst []]) (xsAsgV (by rw [← hpe]; simp only [evLst, evsNil, bindOk, List.length_nil, Nat.zero_le, if_true])),
      xssNx (r' := [some (.ref 0), some (.ref a), some (.ref d), some (.ref b), f4, f5, f6, f7, some (.ref p), f9, f10, f11, f12, none, none]) (h' := h5) (xsFor_r1 (j := ((8 : Nat) : Int)) (by rw [evInt]; rfl) (okR_nat (by decide)) e7),
      xssNx (r' := [some (.ref 0), some (.ref a), some (.ref d), some (.ref b), f4, f5, f6, f7, some (.ref p), f9, f10, f11, f12, some (.ref hd'), none]) (h' := h6) (xsAsgV s13),
      xssNx (r' := [some (.ref 0), some (.ref a), some (.ref d), some (.ref b), f4, f5, f6, f7, some (.ref p), f9, f10, f11, f12, some (.ref hd'), some (.ref fk)]) (h' := h7) (xsAsgV (by simp only [evCall, evsCons, evsNil, evIx, evVar, evInt, List.getElem?_cons_succ, ge0, bindOk, i0, i1, e8, nxOk])),
      xssRt (d := .bl true) (h' := h8 ++ [.lst [.ref a, .ref b]]) (by
        simp only [xsRet, evAnd, evCall, evBlt, evsCons, evsNil, evLst, evVar, List.getElem?_cons_succ, ge0, bindOk, es, sm1, nxOk, tBl, List.length_cons, List.length_nil, Nat.reduceAdd, Nat.reduceLeDiff, if_true, sm2])]
    rfl
end
end Ng
end
section
namespace Pk19
open PySem L2 Ng
def top (i : Nat) : PySem.Stmt := PySem.Challenge.pw_nightglass_k19_whole_matches.main.body.getD i (.Pass ⟨0, 0, 0, 0⟩)
def G : Gs := ⟨["turned", "turn_behind", "moved", "leading", "behind", "led_rows", "corner", "cornering", "cornerings", "matches", "_law_draws", "_law_far", "_law_turned", "_law_moved", "_law_motion", "_law_same", "_law_saying", "_law_rows_led", "_law_rows", "law"], [("ORIGIN", .tup [.int (0), .int (0)]), ("TURNS", .tup [.tup [.int (1), .int (0), .int (0), .int (1)], .tup [.int (0), .int (-1), .int (1), .int (0)], .tup [.int (-1), .int (0), .int (0), .int (-1)], .tup [.int (0), .int (1), .int (-1), .int (0)], .tup [.int (-1), .int (0), .int (0), .int (1)], .tup [.int (0), .int (-1), .int (-1), .int (0)], .tup [.int (1), .int (0), .int (0), .int (-1)], .tup [.int (0), .int (1), .int (1), .int (0)]]), ("MIRRORED", .int (4))], [], []⟩
theorem gc0 : G.csts[0]? = some (("ORIGIN", .tup [.int (0), .int (0)]) : Str × D) := rfl
theorem gc1 : G.csts[1]? = some (("TURNS", .tup [.tup [.int (1), .int (0), .int (0), .int (1)], .tup [.int (0), .int (-1), .int (1), .int (0)], .tup [.int (-1), .int (0), .int (0), .int (-1)], .tup [.int (0), .int (1), .int (-1), .int (0)], .tup [.int (-1), .int (0), .int (0), .int (1)], .tup [.int (0), .int (-1), .int (-1), .int (0)], .tup [.int (1), .int (0), .int (0), .int (-1)], .tup [.int (0), .int (1), .int (1), .int (0)]]) : Str × D) := rfl
theorem gc2 : G.csts[2]? = some (("MIRRORED", .int (4)) : Str × D) := rfl
def b0 : Ss := (.cons (.asg (.tp [2, 3]) (.var 1)) (.cons (.asg (.tp [4, 5, 6, 7]) (.ix (.gc 1) (.var 0))) (.cons (.ret (.tup (.cons (.bin .add (.bin .mul (.var 4) (.var 2)) (.bin .mul (.var 5) (.var 3))) (.cons (.bin .add (.bin .mul (.var 6) (.var 2)) (.bin .mul (.var 7) (.var 3))) .nil)))) .nil)))
def b1 : Ss := (.cons (.asg (.nm 2) (.ite (.cmp .ge (.var 1) (.gc 2)) (.bin .sub (.var 1) (.var 0)) (.bin .add (.var 1) (.var 0)))) (.cons (.asg (.nm 3) (.cmp .ne (.cmp .ge (.var 0) (.gc 2)) (.cmp .ge (.var 1) (.gc 2)))) (.cons (.ret (.bin .add (.bin .mod (.var 2) (.int 4)) (.ite (.var 3) (.gc 2) (.int 0)))) .nil)))
def b2 : Ss := (.cons (.asg (.tp [2, 3, 4]) (.var 0)) (.cons (.asg (.tp [5, 6]) (.call 0 (.cons (.var 2) (.cons (.var 1) .nil)))) (.cons (.ret (.tup (.cons (.bin .add (.var 5) (.var 3)) (.cons (.bin .add (.var 6) (.var 4)) .nil)))) .nil)))
def b3 : Ss := (.cons (.asg (.tp [3, 4]) (.call 0 (.cons (.var 0) (.cons (.var 1) .nil)))) (.cons (.asg (.tp [5, 6]) (.var 2)) (.cons (.ret (.tup (.cons (.var 0) (.cons (.bin .sub (.var 5) (.var 3)) (.cons (.bin .sub (.var 6) (.var 4)) .nil))))) .nil)))
def b4 : Ss := (.cons (.asg (.nm 2) (.call 1 (.cons (.ix (.var 0) (.int 0)) (.cons (.ix (.var 1) (.int 0)) .nil)))) (.cons (.ret (.call 3 (.cons (.var 2) (.cons (.gc 0) (.cons (.call 2 (.cons (.var 1) (.cons (.call 2 (.cons (.var 0) (.cons (.gc 0) .nil))) .nil))) .nil))))) .nil))
def b5 : Ss := (.cons (.asg (.nm 2) (.lst .nil)) (.cons (.forr (.tp [3, 4, 5, 6]) (.sq (.var 0)) (.cons (.asg (.tp [7, 8]) (.call 2 (.cons (.var 1) (.cons (.tup (.cons (.var 3) (.cons (.var 4) .nil))) .nil)))) (.cons (.ex (.app (.var 2) (.tup (.cons (.var 7) (.cons (.var 8) (.cons (.var 5) (.cons (.var 6) .nil))))))) .nil))) (.cons (.ret (.blt .sorted (.cons (.var 2) .nil))) .nil)))
def b6 : Ss := (.cons (.ret (.tup (.cons (.blt .min (.cons (.comp (.tp [0, 1]) .sq (.cons (.var 0) .nil) .nil (.var 0) ["x", "y"] []) .nil)) (.cons (.blt .min (.cons (.comp (.tp [0, 1]) .sq (.cons (.var 0) .nil) .nil (.var 1) ["x", "y"] []) .nil)) .nil)))) .nil)
def b7 : Ss := (.cons (.asg (.nm 3) (.call 6 (.cons (.comp (.tp [0, 1, 2, 3]) .sq (.cons (.var 1) .nil) .nil (.call 0 (.cons (.var 4) (.cons (.tup (.cons (.var 0) (.cons (.var 1) .nil))) .nil))) ["x", "y", "word", "number", "turn"] [0]) .nil))) (.cons (.ret (.call 4 (.cons (.tup (.cons (.var 0) (.cons (.int 0) (.cons (.int 0) .nil)))) (.cons (.call 3 (.cons (.int 0) (.cons (.var 3) (.cons (.var 2) .nil)))) .nil)))) .nil))
def b8 : Ss := (.cons (.ret (.comp (.nm 0) .r1 (.cons (.blt .len (.cons (.gc 1) .nil)) .nil) .nil (.call 7 (.cons (.var 0) (.cons (.var 1) (.cons (.var 2) .nil)))) ["turn", "rows", "goal"] [0, 1])) .nil)
def b9 : Ss := (.cons (.asg (.nm 2) (.call 6 (.cons (.comp (.tp [0, 1, 2, 3]) .sq (.cons (.var 0) .nil) .nil (.tup (.cons (.var 0) (.cons (.var 1) .nil))) ["x", "y", "word", "number"] []) .nil))) (.cons (.ret (.comp (.nm 0) .sq (.cons (.call 8 (.cons (.var 1) (.cons (.var 2) .nil))) .nil) (.cons (.cmp .eq (.call 5 (.cons (.var 1) (.cons (.var 0) .nil))) (.blt .sorted (.cons (.var 2) .nil))) .nil) (.var 0) ["motion", "other", "one"] [1, 0])) .nil))
def b10 : Ss := (.cons (.asg (.nm 3) (.bin .add (.bin .mul (.int 7) (.var 1)) (.int 1))) (.cons (.iff (.cmp .lt (.var 1) (.blt .len (.cons (.var 0) .nil))) (.cons (.asg (.nm 3) (.ix (.var 0) (.var 1))) .nil) (.cons (.iff (.cmp .gt (.blt .len (.cons (.var 0) .nil)) (.int 0)) (.cons (.asg (.nm 3) (.bin .add (.bin .add (.bin .mod (.ix (.var 0) (.bin .mod (.var 1) (.blt .len (.cons (.var 0) .nil)))) (.int 999983)) (.bin .mul (.bin .mul (.var 1) (.var 1)) (.int 97))) (.int 1))) .nil) .nil) .nil)) (.cons (.asg (.nm 4) (.bin .add (.bin .add (.bin .mod (.var 3) (.int 999983)) (.bin .mul (.int 31) (.var 1))) (.int 5))) (.cons (.asg (.nm 5) (.lst .nil)) (.cons (.iff (.cmp .ge (.var 3) (.bin .pow (.int 10) (.int 18))) (.cons (.whl (.and (.cmp .gt (.var 3) (.int 0)) (.cmp .lt (.blt .len (.cons (.var 5) .nil)) (.var 2))) (.cons (.ex (.app (.var 5) (.bin .mod (.var 3) (.int 1013)))) (.cons (.asg (.nm 3) (.bin .fdiv (.var 3) (.int 1013))) .nil))) .nil) .nil) (.cons (.whl (.cmp .lt (.blt .len (.cons (.var 5) .nil)) (.var 2)) (.cons (.asg (.nm 6) (.bin .add (.blt .len (.cons (.var 5) .nil)) (.int 1))) (.cons (.asg (.nm 4) (.bin .mod (.bin .add (.bin .add (.bin .mul (.var 4) (.int 48271)) (.bin .mul (.bin .mul (.var 6) (.var 6)) (.int 6133))) (.int 17)) (.int 2147483647))) (.cons (.ex (.app (.var 5) (.bin .mod (.bin .mod (.bin .mul (.bin .mod (.var 4) (.int 65521)) (.bin .add (.bin .mod (.bin .fdiv (.var 4) (.int 65521)) (.int 32749)) (.int 1))) (.int 1000003)) (.int 1013)))) .nil)))) (.cons (.ret (.var 5)) .nil)))))))
def b11 : Ss := (.cons (.iff (.cmp .lt (.bin .mod (.var 0) (.int 5)) (.int 3)) (.cons (.ret (.bin .sub (.bin .mod (.bin .fdiv (.var 0) (.int 5)) (.int 13)) (.int 6))) .nil) .nil) (.cons (.iff (.cmp .eq (.bin .mod (.var 0) (.int 5)) (.int 3)) (.cons (.ret (.bin .sub (.bin .add (.bin .mul (.var 0) (.int 1013)) (.var 1)) (.int 513000))) .nil) .nil) (.cons (.ret (.bin .add (.bin .mul (.bin .sub (.var 1) (.int 506)) (.bin .pow (.int 10) (.int 27))) (.var 0))) .nil)))
def b12 : Ss := (.cons (.ret (.ix (.lst (.cons (.tup (.cons (.var 1) (.cons (.var 2) .nil))) (.cons (.tup (.cons (.neg (.var 2)) (.cons (.var 1) .nil))) (.cons (.tup (.cons (.neg (.var 1)) (.cons (.neg (.var 2)) .nil))) (.cons (.tup (.cons (.var 2) (.cons (.neg (.var 1)) .nil))) (.cons (.tup (.cons (.neg (.var 1)) (.cons (.var 2) .nil))) (.cons (.tup (.cons (.neg (.var 2)) (.cons (.neg (.var 1)) .nil))) (.cons (.tup (.cons (.var 1) (.cons (.neg (.var 2)) .nil))) (.cons (.tup (.cons (.var 2) (.cons (.var 1) .nil))) .nil))))))))) (.var 0))) .nil)
def b13 : Ss := (.cons (.asg (.tp [2, 3]) (.call 12 (.cons (.ix (.var 0) (.int 0)) (.cons (.ix (.var 1) (.int 0)) (.cons (.ix (.var 1) (.int 1)) .nil))))) (.cons (.ret (.tup (.cons (.bin .add (.var 2) (.ix (.var 0) (.int 1))) (.cons (.bin .add (.var 3) (.ix (.var 0) (.int 2))) .nil)))) .nil))
def b14 : Ss := (.cons (.ret (.tup (.cons (.bin .mod (.ix (.var 0) (.var 1)) (.int 8)) (.cons (.call 11 (.cons (.ix (.var 0) (.bin .add (.var 1) (.int 1))) (.cons (.ix (.var 0) (.bin .add (.var 1) (.int 2))) .nil))) (.cons (.call 11 (.cons (.ix (.var 0) (.bin .add (.var 1) (.int 3))) (.cons (.ix (.var 0) (.bin .add (.var 1) (.int 4))) .nil))) .nil))))) .nil)
def b15 : Ss := (.cons (.iff (.blt .isinst (.cons (.var 1) (.cons (.tup (.cons (.ty .tuple) (.cons (.ty .list) .nil))) .nil))) (.cons (.iff (.or (.cmp .ne (.blt .isinst (.cons (.var 1) (.cons (.ty .tuple) .nil))) (.blt .isinst (.cons (.var 0) (.cons (.ty .tuple) .nil)))) (.cmp .ne (.blt .isinst (.cons (.var 1) (.cons (.ty .list) .nil))) (.blt .isinst (.cons (.var 0) (.cons (.ty .list) .nil))))) (.cons (.ret (.bl false)) .nil) .nil) (.cons (.iff (.cmp .ne (.blt .len (.cons (.var 0) .nil)) (.blt .len (.cons (.var 1) .nil))) (.cons (.ret (.bl false)) .nil) .nil) (.cons (.forr (.nm 2) (.r1 (.blt .len (.cons (.var 1) .nil))) (.cons (.iff (.not (.call 15 (.cons (.ix (.var 0) (.var 2)) (.cons (.ix (.var 1) (.var 2)) .nil)))) (.cons (.ret (.bl false)) .nil) .nil) .nil)) (.cons (.ret (.bl true)) .nil)))) .nil) (.cons (.iff (.cmp .is (.var 1) .non) (.cons (.ret (.cmp .is (.var 0) .non)) .nil) .nil) (.cons (.iff (.or (.blt .isinst (.cons (.var 1) (.cons (.ty .bool) .nil))) (.blt .isinst (.cons (.var 0) (.cons (.ty .bool) .nil)))) (.cons (.ret (.and (.blt .isinst (.cons (.var 1) (.cons (.ty .bool) .nil))) (.and (.blt .isinst (.cons (.var 0) (.cons (.ty .bool) .nil))) (.cmp .eq (.var 0) (.var 1))))) .nil) .nil) (.cons (.iff (.blt .isinst (.cons (.var 1) (.cons (.ty .int) .nil))) (.cons (.ret (.and (.blt .isinst (.cons (.var 0) (.cons (.ty .int) .nil))) (.cmp .eq (.var 0) (.var 1)))) .nil) .nil) (.cons (.ret (.and (.blt .isinst (.cons (.var 0) (.cons (.ty .str) .nil))) (.cmp .eq (.var 0) (.var 1)))) .nil)))))
def b16 : Ss := (.cons (.iff (.cmp .eq (.bin .mod (.var 0) (.int 19)) (.int 0)) (.cons (.ret (.tup (.cons (.str "unseen") (.cons (.int 0) .nil)))) .nil) .nil) (.cons (.iff (.cmp .lt (.bin .mod (.var 0) (.int 19)) (.int 10)) (.cons (.ret (.tup (.cons (.str "star") (.cons (.bin .mod (.var 0) (.int 19)) .nil)))) .nil) .nil) (.cons (.ret (.tup (.cons (.str "under") (.cons (.bin .sub (.bin .mod (.var 0) (.int 19)) (.int 9)) .nil)))) .nil)))
def b17 : Ss := (.cons (.ret (.blt .sorted (.cons (.comp (.nm 0) .sq (.cons (.var 0) .nil) .nil (.bin .add (.call 13 (.cons (.var 1) (.cons (.tup (.cons (.ix (.var 0) (.int 0)) (.cons (.ix (.var 0) (.int 1)) .nil))) .nil))) (.tup (.cons (.ix (.var 0) (.int 2)) (.cons (.ix (.var 0) (.int 3)) .nil)))) ["_law_row", "_law_motion_here"] [1]) .nil))) .nil)
def b18 : Ss := (.cons (.asg (.nm 1) (.call 10 (.cons (.var 0) (.cons (.int 18) (.cons (.int 3) .nil))))) (.cons (.asg (.nm 2) .dnt) (.cons (.forr (.nm 3) (.r1 (.bin .add (.int 1) (.bin .mod (.ix (.var 1) (.int 0)) (.int 8)))) (.cons (.asg (.nm 4) (.call 10 (.cons (.var 0) (.cons (.var 3) (.cons (.int 4) .nil))))) (.cons (.asg (.nm 5) (.tup (.cons (.bin .sub (.bin .mod (.ix (.var 4) (.int 0)) (.int 7)) (.int 3)) (.cons (.bin .sub (.bin .mod (.ix (.var 4) (.int 1)) (.int 7)) (.int 3)) .nil)))) (.cons (.asg (.nm 6) (.call 16 (.cons (.bin .add (.int 1) (.bin .mod (.ix (.var 4) (.int 2)) (.int 18))) .nil))) (.cons (.iff (.cmp .eq (.bin .mod (.bin .fdiv (.ix (.var 1) (.int 0)) (.int 8)) (.int 2)) (.int 1)) (.cons (.asg (.nm 6) (.call 16 (.cons (.ix (.lst (.cons (.int 2) (.cons (.int 11) .nil))) (.bin .mod (.ix (.var 4) (.int 2)) (.int 2))) .nil))) .nil) .nil) (.cons (.stx (.var 2) (.var 5) (.var 6)) (.cons (.iff (.cmp .eq (.bin .mod (.ix (.var 1) (.int 1)) (.int 3)) (.int 1)) (.cons (.stx (.var 2) (.call 12 (.cons (.bin .mod (.bin .fdiv (.ix (.var 1) (.int 1)) (.int 3)) (.int 8)) (.cons (.ix (.var 5) (.int 0)) (.cons (.ix (.var 5) (.int 1)) .nil)))) (.var 6)) .nil) .nil) .nil))))))) (.cons (.ret (.blt .sorted (.cons (.comp (.tp [0, 1]) .its (.cons (.var 2) .nil) .nil (.bin .add (.var 0) (.var 1)) ["_law_place", "_law_saying_here"] []) .nil))) .nil))))
def b19 : Ss := (.cons (.asg (.nm 1) (.call 18 (.cons (.var 0) .nil))) (.cons (.asg (.nm 2) (.call 10 (.cons (.var 0) (.cons (.int 17) (.cons (.int 8) .nil))))) (.cons (.asg (.nm 3) (.call 17 (.cons (.var 1) (.cons (.call 14 (.cons (.var 2) (.cons (.int 0) .nil))) .nil)))) (.cons (.iff (.cmp .eq (.bin .mod (.ix (.var 2) (.int 5)) (.int 3)) (.int 1)) (.cons (.asg (.nm 4) (.bin .mod (.ix (.var 2) (.int 6)) (.blt .len (.cons (.var 3) .nil)))) (.cons (.asg (.nm 5) (.ix (.var 3) (.var 4))) (.cons (.asg (.nm 6) (.lst (.cons (.tup (.cons (.ix (.var 5) (.int 0)) (.cons (.ix (.var 5) (.int 1)) (.cons (.str "star") (.cons (.int 9) .nil))))) (.cons (.tup (.cons (.ix (.var 5) (.int 0)) (.cons (.ix (.var 5) (.int 1)) (.cons (.str "under") (.cons (.int 9) .nil))))) (.cons (.tup (.cons (.bin .add (.ix (.var 5) (.int 0)) (.int 1)) (.cons (.bin .add (.ix (.var 5) (.int 1)) (.int 20)) (.cons (.str "star") (.cons (.int 1) .nil))))) .nil))))) (.cons (.asg (.nm 7) (.bin .add (.slU (.var 3) (.var 4)) (.slL (.var 3) (.bin .add (.var 4) (.int 1))))) (.cons (.iff (.or (.not (.var 7)) (.cmp .lt (.bin .mod (.ix (.var 2) (.int 7)) (.int 4)) (.int 3))) (.cons (.asg (.nm 7) (.bin .add (.var 7) (.lst (.cons (.ix (.var 6) (.bin .mod (.ix (.var 2) (.int 7)) (.int 3))) .nil)))) .nil) .nil) (.cons (.asg (.nm 3) (.blt .sorted (.cons (.var 7) .nil))) .nil)))))) .nil) (.cons (.asg (.nm 8) (.lst .nil)) (.cons (.forr (.nm 9) (.r1 (.int 8)) (.cons (.asg (.tp [10, 11]) (.call 12 (.cons (.var 9) (.cons (.ix (.ix (.var 3) (.int 0)) (.int 0)) (.cons (.ix (.ix (.var 3) (.int 0)) (.int 1)) .nil))))) (.cons (.forr (.nm 5) (.sq (.var 1)) (.cons (.asg (.nm 12) (.tup (.cons (.var 9) (.cons (.bin .sub (.ix (.var 5) (.int 0)) (.var 10)) (.cons (.bin .sub (.ix (.var 5) (.int 1)) (.var 11)) .nil))))) (.cons (.iff (.cmp .eq (.call 17 (.cons (.var 3) (.cons (.var 12) .nil))) (.var 1)) (.cons (.ex (.app (.var 8) (.var 12))) .nil) .nil) .nil))) .nil))) (.cons (.asg (.nm 13) (.lst (.cons (.blt .list (.cons (.var 1) .nil)) (.cons (.blt .list (.cons (.var 3) .nil)) .nil)))) (.cons (.asg (.nm 14) (.call 9 (.cons (.ix (.var 13) (.int 0)) (.cons (.ix (.var 13) (.int 1)) .nil)))) (.cons (.ret (.and (.call 15 (.cons (.var 14) (.cons (.blt .sorted (.cons (.var 8) .nil)) .nil))) (.call 15 (.cons (.var 13) (.cons (.lst (.cons (.var 1) (.cons (.var 3) .nil))) .nil))))) .nil)))))))))
def T : Nat → Option Fc
  | 0 => some ⟨2, 8, b0⟩
  | 1 => some ⟨2, 4, b1⟩
  | 2 => some ⟨2, 7, b2⟩
  | 3 => some ⟨3, 7, b3⟩
  | 4 => some ⟨2, 3, b4⟩
  | 5 => some ⟨2, 9, b5⟩
  | 6 => some ⟨1, 1, b6⟩
  | 7 => some ⟨3, 4, b7⟩
  | 8 => some ⟨2, 2, b8⟩
  | 9 => some ⟨2, 3, b9⟩
  | 10 => some ⟨3, 7, b10⟩
  | 11 => some ⟨2, 2, b11⟩
  | 12 => some ⟨3, 3, b12⟩
  | 13 => some ⟨2, 4, b13⟩
  | 14 => some ⟨2, 2, b14⟩
  | 15 => some ⟨2, 3, b15⟩
  | 16 => some ⟨1, 1, b16⟩
  | 17 => some ⟨2, 2, b17⟩
  | 18 => some ⟨1, 7, b18⟩
  | 19 => some ⟨1, 15, b19⟩
  | _ => none
theorem sc0 : FnScope ["turn", "place", "x", "y", "x_to_x", "y_to_x", "x_to_y", "y_to_y"] ["turn", "place"] (defScope (top 4)) := ⟨rfl, rfl, rfl, by decide +kernel, rfl, by decide +kernel, by decide +kernel⟩
set_option maxHeartbeats 0 in
theorem ck0 : SSs ["turn", "place", "x", "y", "x_to_x", "y_to_x", "x_to_y", "y_to_y"] (defScope (top 4)) G b0 (defBody (top 4)) := (ds_cons (dS_asgT (by decide +kernel) rfl (fun _ => rfl) (dE_var rfl (by decide +kernel))) (ds_cons (dS_asgT (by decide +kernel) rfl (fun _ => rfl) (dE_ix (fun _ _ => rfl) (dE_gc gc1 (by decide +kernel)) (dE_var rfl (by decide +kernel)))) (ds_cons (dS_ret (dE_tup (sa_cons rfl (dE_bin (dE_bin (dE_var rfl (by decide +kernel)) (dE_var rfl (by decide +kernel))) (dE_bin (dE_var rfl (by decide +kernel)) (dE_var rfl (by decide +kernel)))) (sa_cons rfl (dE_bin (dE_bin (dE_var rfl (by decide +kernel)) (dE_var rfl (by decide +kernel))) (dE_bin (dE_var rfl (by decide +kernel)) (dE_var rfl (by decide +kernel)))) sa_nil)))) ds_nil)))
theorem sc1 : FnScope ["first", "second", "quarters", "mirrors"] ["first", "second"] (defScope (top 5)) := ⟨rfl, rfl, rfl, by decide +kernel, rfl, by decide +kernel, by decide +kernel⟩
set_option maxHeartbeats 0 in
theorem ck1 : SSs ["first", "second", "quarters", "mirrors"] (defScope (top 5)) G b1 (defBody (top 5)) := (ds_cons (dS_asgN rfl (by decide +kernel) rfl (dE_ite (dE_cmp rfl (dE_var rfl (by decide +kernel)) (dE_gc gc2 (by decide +kernel))) (dE_bin (dE_var rfl (by decide +kernel)) (dE_var rfl (by decide +kernel))) (dE_bin (dE_var rfl (by decide +kernel)) (dE_var rfl (by decide +kernel))))) (ds_cons (dS_asgN rfl (by decide +kernel) rfl (dE_cmp rfl (dE_cmp rfl (dE_var rfl (by decide +kernel)) (dE_gc gc2 (by decide +kernel))) (dE_cmp rfl (dE_var rfl (by decide +kernel)) (dE_gc gc2 (by decide +kernel))))) (ds_cons (dS_ret (dE_bin (dE_bin (dE_var rfl (by decide +kernel)) dE_int) (dE_ite (dE_var rfl (by decide +kernel)) (dE_gc gc2 (by decide +kernel)) dE_int))) ds_nil)))
theorem sc2 : FnScope ["motion", "place", "turn", "right", "up", "x", "y"] ["motion", "place"] (defScope (top 6)) := ⟨rfl, rfl, rfl, by decide +kernel, rfl, by decide +kernel, by decide +kernel⟩
set_option maxHeartbeats 0 in
theorem ck2 : SSs ["motion", "place", "turn", "right", "up", "x", "y"] (defScope (top 6)) G b2 (defBody (top 6)) := (ds_cons (dS_asgT (by decide +kernel) rfl (fun _ => rfl) (dE_var rfl (by decide +kernel))) (ds_cons (dS_asgT (by decide +kernel) rfl (fun _ => rfl) (dE_call rfl (by decide +kernel) (sa_cons rfl (dE_var rfl (by decide +kernel)) (sa_cons rfl (dE_var rfl (by decide +kernel)) sa_nil)))) (ds_cons (dS_ret (dE_tup (sa_cons rfl (dE_bin (dE_var rfl (by decide +kernel)) (dE_var rfl (by decide +kernel))) (sa_cons rfl (dE_bin (dE_var rfl (by decide +kernel)) (dE_var rfl (by decide +kernel))) sa_nil)))) ds_nil)))
theorem sc3 : FnScope ["turn", "place", "goal", "x", "y", "goal_x", "goal_y"] ["turn", "place", "goal"] (defScope (top 7)) := ⟨rfl, rfl, rfl, by decide +kernel, rfl, by decide +kernel, by decide +kernel⟩
set_option maxHeartbeats 0 in
theorem ck3 : SSs ["turn", "place", "goal", "x", "y", "goal_x", "goal_y"] (defScope (top 7)) G b3 (defBody (top 7)) := (ds_cons (dS_asgT (by decide +kernel) rfl (fun _ => rfl) (dE_call rfl (by decide +kernel) (sa_cons rfl (dE_var rfl (by decide +kernel)) (sa_cons rfl (dE_var rfl (by decide +kernel)) sa_nil)))) (ds_cons (dS_asgT (by decide +kernel) rfl (fun _ => rfl) (dE_var rfl (by decide +kernel))) (ds_cons (dS_ret (dE_tup (sa_cons rfl (dE_var rfl (by decide +kernel)) (sa_cons rfl (dE_bin (dE_var rfl (by decide +kernel)) (dE_var rfl (by decide +kernel))) (sa_cons rfl (dE_bin (dE_var rfl (by decide +kernel)) (dE_var rfl (by decide +kernel))) sa_nil))))) ds_nil)))
theorem sc4 : FnScope ["first", "second", "turn"] ["first", "second"] (defScope (top 8)) := ⟨rfl, rfl, rfl, by decide +kernel, rfl, by decide +kernel, by decide +kernel⟩
set_option maxHeartbeats 0 in
theorem ck4 : SSs ["first", "second", "turn"] (defScope (top 8)) G b4 (defBody (top 8)) := (ds_cons (dS_asgN rfl (by decide +kernel) rfl (dE_call rfl (by decide +kernel) (sa_cons rfl (dE_ix (fun _ _ => rfl) (dE_var rfl (by decide +kernel)) dE_int) (sa_cons rfl (dE_ix (fun _ _ => rfl) (dE_var rfl (by decide +kernel)) dE_int) sa_nil)))) (ds_cons (dS_ret (dE_call rfl (by decide +kernel) (sa_cons rfl (dE_var rfl (by decide +kernel)) (sa_cons rfl (dE_gc gc0 (by decide +kernel)) (sa_cons rfl (dE_call rfl (by decide +kernel) (sa_cons rfl (dE_var rfl (by decide +kernel)) (sa_cons rfl (dE_call rfl (by decide +kernel) (sa_cons rfl (dE_var rfl (by decide +kernel)) (sa_cons rfl (dE_gc gc0 (by decide +kernel)) sa_nil))) sa_nil))) sa_nil))))) ds_nil))
theorem sc5 : FnScope ["rows", "motion", "told", "x", "y", "word", "number", "goal_x", "goal_y"] ["rows", "motion"] (defScope (top 10)) := ⟨rfl, rfl, rfl, by decide +kernel, rfl, by decide +kernel, by decide +kernel⟩
set_option maxHeartbeats 0 in
theorem ck5 : SSs ["rows", "motion", "told", "x", "y", "word", "number", "goal_x", "goal_y"] (defScope (top 10)) G b5 (defBody (top 10)) := (ds_cons (dS_asgN rfl (by decide +kernel) rfl (dE_lst sa_nil)) (ds_cons (dS_forS (by decide +kernel) (fun _ _ => rfl) (dE_var rfl (by decide +kernel)) (ds_cons (dS_asgT (by decide +kernel) rfl (fun _ => rfl) (dE_call rfl (by decide +kernel) (sa_cons rfl (dE_var rfl (by decide +kernel)) (sa_cons rfl (dE_tup (sa_cons rfl (dE_var rfl (by decide +kernel)) (sa_cons rfl (dE_var rfl (by decide +kernel)) sa_nil))) sa_nil)))) (ds_cons (dS_ex rfl (dE_app rfl rfl (dE_var rfl (by decide +kernel)) (dE_tup (sa_cons rfl (dE_var rfl (by decide +kernel)) (sa_cons rfl (dE_var rfl (by decide +kernel)) (sa_cons rfl (dE_var rfl (by decide +kernel)) (sa_cons rfl (dE_var rfl (by decide +kernel)) sa_nil))))))) ds_nil))) (ds_cons (dS_ret (dE_blt (by decide +kernel) (sa_cons rfl (dE_var rfl (by decide +kernel)) sa_nil))) ds_nil)))
theorem sc6 : FnScope ["places"] ["places"] (defScope (top 11)) := ⟨rfl, rfl, rfl, by decide +kernel, rfl, by decide +kernel, by decide +kernel⟩
set_option maxHeartbeats 0 in
theorem ck6 : SSs ["places"] (defScope (top 11)) G b6 (defBody (top 11)) := (ds_cons (dS_ret (dE_tup (sa_cons rfl (dE_blt (by decide +kernel) (sa_cons rfl (dE_comp (blk_of (by decide +kernel)) rfl (by decide +kernel) (it_sq (dE_var rfl (by decide +kernel))) sb_nil (dE_var rfl (by decide +kernel))) sa_nil)) (sa_cons rfl (dE_blt (by decide +kernel) (sa_cons rfl (dE_comp (blk_of (by decide +kernel)) rfl (by decide +kernel) (it_sq (dE_var rfl (by decide +kernel))) sb_nil (dE_var rfl (by decide +kernel))) sa_nil)) sa_nil)))) ds_nil)
theorem sc7 : FnScope ["turn", "rows", "goal", "turned_corner"] ["turn", "rows", "goal"] (defScope (top 12)) := ⟨rfl, rfl, rfl, by decide +kernel, rfl, by decide +kernel, by decide +kernel⟩
set_option maxHeartbeats 0 in
theorem ck7 : SSs ["turn", "rows", "goal", "turned_corner"] (defScope (top 12)) G b7 (defBody (top 12)) := (ds_cons (dS_asgN rfl (by decide +kernel) rfl (dE_call rfl (by decide +kernel) (sa_cons rfl (dE_comp (blk_of (by decide +kernel)) rfl (by decide +kernel) (it_sq (dE_var rfl (by decide +kernel))) sb_nil (dE_call rfl (by decide +kernel) (sa_cons rfl (dE_var rfl (by decide +kernel)) (sa_cons rfl (dE_tup (sa_cons rfl (dE_var rfl (by decide +kernel)) (sa_cons rfl (dE_var rfl (by decide +kernel)) sa_nil))) sa_nil)))) sa_nil))) (ds_cons (dS_ret (dE_call rfl (by decide +kernel) (sa_cons rfl (dE_tup (sa_cons rfl (dE_var rfl (by decide +kernel)) (sa_cons rfl dE_int (sa_cons rfl dE_int sa_nil)))) (sa_cons rfl (dE_call rfl (by decide +kernel) (sa_cons rfl dE_int (sa_cons rfl (dE_var rfl (by decide +kernel)) (sa_cons rfl (dE_var rfl (by decide +kernel)) sa_nil)))) sa_nil)))) ds_nil))
theorem sc8 : FnScope ["rows", "goal"] ["rows", "goal"] (defScope (top 13)) := ⟨rfl, rfl, rfl, by decide +kernel, rfl, by decide +kernel, by decide +kernel⟩
set_option maxHeartbeats 0 in
theorem ck8 : SSs ["rows", "goal"] (defScope (top 13)) G b8 (defBody (top 13)) := (ds_cons (dS_ret (dE_comp (blk_of (by decide +kernel)) rfl (by decide +kernel) (it_r1 (by decide +kernel) rfl (dE_blt (by decide +kernel) (sa_cons rfl (dE_gc gc1 (by decide +kernel)) sa_nil))) sb_nil (dE_call rfl (by decide +kernel) (sa_cons rfl (dE_var rfl (by decide +kernel)) (sa_cons rfl (dE_var rfl (by decide +kernel)) (sa_cons rfl (dE_var rfl (by decide +kernel)) sa_nil)))))) ds_nil)
theorem sc9 : FnScope ["one", "other", "goal"] ["one", "other"] (defScope (top 14)) := ⟨rfl, rfl, rfl, by decide +kernel, rfl, by decide +kernel, by decide +kernel⟩
set_option maxHeartbeats 0 in
theorem ck9 : SSs ["one", "other", "goal"] (defScope (top 14)) G b9 (defBody (top 14)) := (ds_cons (dS_asgN rfl (by decide +kernel) rfl (dE_call rfl (by decide +kernel) (sa_cons rfl (dE_comp (blk_of (by decide +kernel)) rfl (by decide +kernel) (it_sq (dE_var rfl (by decide +kernel))) sb_nil (dE_tup (sa_cons rfl (dE_var rfl (by decide +kernel)) (sa_cons rfl (dE_var rfl (by decide +kernel)) sa_nil)))) sa_nil))) (ds_cons (dS_ret (dE_comp (blk_of (by decide +kernel)) rfl (by decide +kernel) (it_sq (dE_call rfl (by decide +kernel) (sa_cons rfl (dE_var rfl (by decide +kernel)) (sa_cons rfl (dE_var rfl (by decide +kernel)) sa_nil)))) (sb_cons (dE_cmp rfl (dE_call rfl (by decide +kernel) (sa_cons rfl (dE_var rfl (by decide +kernel)) (sa_cons rfl (dE_var rfl (by decide +kernel)) sa_nil))) (dE_blt (by decide +kernel) (sa_cons rfl (dE_var rfl (by decide +kernel)) sa_nil))) sb_nil) (dE_var rfl (by decide +kernel)))) ds_nil))
theorem sc10 : FnScope ["_law_script", "_law_at", "_law_many", "_law_cell", "_law_seed", "_law_row", "_law_mark"] ["_law_script", "_law_at", "_law_many"] (defScope (top 16)) := ⟨rfl, rfl, rfl, by decide +kernel, rfl, by decide +kernel, by decide +kernel⟩
set_option maxHeartbeats 0 in
theorem ck10 : SSs ["_law_script", "_law_at", "_law_many", "_law_cell", "_law_seed", "_law_row", "_law_mark"] (defScope (top 16)) G b10 (defBody (top 16)) := (ds_cons (dS_asgN rfl (by decide +kernel) rfl (dE_bin (dE_bin dE_int (dE_var rfl (by decide +kernel))) dE_int)) (ds_cons (dS_iff (dE_cmp rfl (dE_var rfl (by decide +kernel)) (dE_blt (by decide +kernel) (sa_cons rfl (dE_var rfl (by decide +kernel)) sa_nil))) (ds_cons (dS_asgN rfl (by decide +kernel) rfl (dE_ix (fun _ _ => rfl) (dE_var rfl (by decide +kernel)) (dE_var rfl (by decide +kernel)))) ds_nil) (ds_cons (dS_iff (dE_cmp rfl (dE_blt (by decide +kernel) (sa_cons rfl (dE_var rfl (by decide +kernel)) sa_nil)) dE_int) (ds_cons (dS_asgN rfl (by decide +kernel) rfl (dE_bin (dE_bin (dE_bin (dE_ix (fun _ _ => rfl) (dE_var rfl (by decide +kernel)) (dE_bin (dE_var rfl (by decide +kernel)) (dE_blt (by decide +kernel) (sa_cons rfl (dE_var rfl (by decide +kernel)) sa_nil)))) dE_int) (dE_bin (dE_bin (dE_var rfl (by decide +kernel)) (dE_var rfl (by decide +kernel))) dE_int)) dE_int)) ds_nil) ds_nil) ds_nil)) (ds_cons (dS_asgN rfl (by decide +kernel) rfl (dE_bin (dE_bin (dE_bin (dE_var rfl (by decide +kernel)) dE_int) (dE_bin dE_int (dE_var rfl (by decide +kernel)))) dE_int)) (ds_cons (dS_asgN rfl (by decide +kernel) rfl (dE_lst sa_nil)) (ds_cons (dS_iff (dE_cmp rfl (dE_var rfl (by decide +kernel)) (dE_bin dE_int dE_int)) (ds_cons (dS_whl (dE_and (dE_cmp rfl (dE_var rfl (by decide +kernel)) dE_int) (dE_cmp rfl (dE_blt (by decide +kernel) (sa_cons rfl (dE_var rfl (by decide +kernel)) sa_nil)) (dE_var rfl (by decide +kernel)))) (ds_cons (dS_ex rfl (dE_app rfl rfl (dE_var rfl (by decide +kernel)) (dE_bin (dE_var rfl (by decide +kernel)) dE_int))) (ds_cons (dS_asgN rfl (by decide +kernel) rfl (dE_bin (dE_var rfl (by decide +kernel)) dE_int)) ds_nil))) ds_nil) ds_nil) (ds_cons (dS_whl (dE_cmp rfl (dE_blt (by decide +kernel) (sa_cons rfl (dE_var rfl (by decide +kernel)) sa_nil)) (dE_var rfl (by decide +kernel))) (ds_cons (dS_asgN rfl (by decide +kernel) rfl (dE_bin (dE_blt (by decide +kernel) (sa_cons rfl (dE_var rfl (by decide +kernel)) sa_nil)) dE_int)) (ds_cons (dS_asgN rfl (by decide +kernel) rfl (dE_bin (dE_bin (dE_bin (dE_bin (dE_var rfl (by decide +kernel)) dE_int) (dE_bin (dE_bin (dE_var rfl (by decide +kernel)) (dE_var rfl (by decide +kernel))) dE_int)) dE_int) dE_int)) (ds_cons (dS_ex rfl (dE_app rfl rfl (dE_var rfl (by decide +kernel)) (dE_bin (dE_bin (dE_bin (dE_bin (dE_var rfl (by decide +kernel)) dE_int) (dE_bin (dE_bin (dE_bin (dE_var rfl (by decide +kernel)) dE_int) dE_int) dE_int)) dE_int) dE_int))) ds_nil)))) (ds_cons (dS_ret (dE_var rfl (by decide +kernel))) ds_nil)))))))
theorem sc11 : FnScope ["_law_one", "_law_two"] ["_law_one", "_law_two"] (defScope (top 17)) := ⟨rfl, rfl, rfl, by decide +kernel, rfl, by decide +kernel, by decide +kernel⟩
set_option maxHeartbeats 0 in
theorem ck11 : SSs ["_law_one", "_law_two"] (defScope (top 17)) G b11 (defBody (top 17)) := (ds_cons (dS_iff (dE_cmp rfl (dE_bin (dE_var rfl (by decide +kernel)) dE_int) dE_int) (ds_cons (dS_ret (dE_bin (dE_bin (dE_bin (dE_var rfl (by decide +kernel)) dE_int) dE_int) dE_int)) ds_nil) ds_nil) (ds_cons (dS_iff (dE_cmp rfl (dE_bin (dE_var rfl (by decide +kernel)) dE_int) dE_int) (ds_cons (dS_ret (dE_bin (dE_bin (dE_bin (dE_var rfl (by decide +kernel)) dE_int) (dE_var rfl (by decide +kernel))) dE_int)) ds_nil) ds_nil) (ds_cons (dS_ret (dE_bin (dE_bin (dE_bin (dE_var rfl (by decide +kernel)) dE_int) (dE_bin dE_int dE_int)) (dE_var rfl (by decide +kernel)))) ds_nil)))
theorem sc12 : FnScope ["_law_turn", "_law_x", "_law_y"] ["_law_turn", "_law_x", "_law_y"] (defScope (top 18)) := ⟨rfl, rfl, rfl, by decide +kernel, rfl, by decide +kernel, by decide +kernel⟩
set_option maxHeartbeats 0 in
theorem ck12 : SSs ["_law_turn", "_law_x", "_law_y"] (defScope (top 18)) G b12 (defBody (top 18)) := (ds_cons (dS_ret (dE_ix (fun _ _ => rfl) (dE_lst (sa_cons rfl (dE_tup (sa_cons rfl (dE_var rfl (by decide +kernel)) (sa_cons rfl (dE_var rfl (by decide +kernel)) sa_nil))) (sa_cons rfl (dE_tup (sa_cons rfl (dE_neg (dE_var rfl (by decide +kernel))) (sa_cons rfl (dE_var rfl (by decide +kernel)) sa_nil))) (sa_cons rfl (dE_tup (sa_cons rfl (dE_neg (dE_var rfl (by decide +kernel))) (sa_cons rfl (dE_neg (dE_var rfl (by decide +kernel))) sa_nil))) (sa_cons rfl (dE_tup (sa_cons rfl (dE_var rfl (by decide +kernel)) (sa_cons rfl (dE_neg (dE_var rfl (by decide +kernel))) sa_nil))) (sa_cons rfl (dE_tup (sa_cons rfl (dE_neg (dE_var rfl (by decide +kernel))) (sa_cons rfl (dE_var rfl (by decide +kernel)) sa_nil))) (sa_cons rfl (dE_tup (sa_cons rfl (dE_neg (dE_var rfl (by decide +kernel))) (sa_cons rfl (dE_neg (dE_var rfl (by decide +kernel))) sa_nil))) (sa_cons rfl (dE_tup (sa_cons rfl (dE_var rfl (by decide +kernel)) (sa_cons rfl (dE_neg (dE_var rfl (by decide +kernel))) sa_nil))) (sa_cons rfl (dE_tup (sa_cons rfl (dE_var rfl (by decide +kernel)) (sa_cons rfl (dE_var rfl (by decide +kernel)) sa_nil))) sa_nil))))))))) (dE_var rfl (by decide +kernel)))) ds_nil)
theorem sc13 : FnScope ["_law_motion_here", "_law_place", "_law_x", "_law_y"] ["_law_motion_here", "_law_place"] (defScope (top 19)) := ⟨rfl, rfl, rfl, by decide +kernel, rfl, by decide +kernel, by decide +kernel⟩
set_option maxHeartbeats 0 in
theorem ck13 : SSs ["_law_motion_here", "_law_place", "_law_x", "_law_y"] (defScope (top 19)) G b13 (defBody (top 19)) := (ds_cons (dS_asgT (by decide +kernel) rfl (fun _ => rfl) (dE_call rfl (by decide +kernel) (sa_cons rfl (dE_ix (fun _ _ => rfl) (dE_var rfl (by decide +kernel)) dE_int) (sa_cons rfl (dE_ix (fun _ _ => rfl) (dE_var rfl (by decide +kernel)) dE_int) (sa_cons rfl (dE_ix (fun _ _ => rfl) (dE_var rfl (by decide +kernel)) dE_int) sa_nil))))) (ds_cons (dS_ret (dE_tup (sa_cons rfl (dE_bin (dE_var rfl (by decide +kernel)) (dE_ix (fun _ _ => rfl) (dE_var rfl (by decide +kernel)) dE_int)) (sa_cons rfl (dE_bin (dE_var rfl (by decide +kernel)) (dE_ix (fun _ _ => rfl) (dE_var rfl (by decide +kernel)) dE_int)) sa_nil)))) ds_nil))
theorem sc14 : FnScope ["_law_d", "_law_at"] ["_law_d", "_law_at"] (defScope (top 20)) := ⟨rfl, rfl, rfl, by decide +kernel, rfl, by decide +kernel, by decide +kernel⟩
set_option maxHeartbeats 0 in
theorem ck14 : SSs ["_law_d", "_law_at"] (defScope (top 20)) G b14 (defBody (top 20)) := (ds_cons (dS_ret (dE_tup (sa_cons rfl (dE_bin (dE_ix (fun _ _ => rfl) (dE_var rfl (by decide +kernel)) (dE_var rfl (by decide +kernel))) dE_int) (sa_cons rfl (dE_call rfl (by decide +kernel) (sa_cons rfl (dE_ix (fun _ _ => rfl) (dE_var rfl (by decide +kernel)) (dE_bin (dE_var rfl (by decide +kernel)) dE_int)) (sa_cons rfl (dE_ix (fun _ _ => rfl) (dE_var rfl (by decide +kernel)) (dE_bin (dE_var rfl (by decide +kernel)) dE_int)) sa_nil))) (sa_cons rfl (dE_call rfl (by decide +kernel) (sa_cons rfl (dE_ix (fun _ _ => rfl) (dE_var rfl (by decide +kernel)) (dE_bin (dE_var rfl (by decide +kernel)) dE_int)) (sa_cons rfl (dE_ix (fun _ _ => rfl) (dE_var rfl (by decide +kernel)) (dE_bin (dE_var rfl (by decide +kernel)) dE_int)) sa_nil))) sa_nil))))) ds_nil)
theorem sc15 : FnScope ["_law_found", "_law_due", "_law_k"] ["_law_found", "_law_due"] (defScope (top 21)) := ⟨rfl, rfl, rfl, by decide +kernel, rfl, by decide +kernel, by decide +kernel⟩
set_option maxHeartbeats 0 in
theorem ck15 : SSs ["_law_found", "_law_due", "_law_k"] (defScope (top 21)) G b15 (defBody (top 21)) := (ds_cons (dS_iff (dE_blt (by decide +kernel) (sa_cons rfl (dE_var rfl (by decide +kernel)) (sa_cons rfl (dE_tup (sa_cons rfl (dE_ty (by decide +kernel)) (sa_cons rfl (dE_ty (by decide +kernel)) sa_nil))) sa_nil))) (ds_cons (dS_iff (dE_or (dE_cmp rfl (dE_blt (by decide +kernel) (sa_cons rfl (dE_var rfl (by decide +kernel)) (sa_cons rfl (dE_ty (by decide +kernel)) sa_nil))) (dE_blt (by decide +kernel) (sa_cons rfl (dE_var rfl (by decide +kernel)) (sa_cons rfl (dE_ty (by decide +kernel)) sa_nil)))) (dE_cmp rfl (dE_blt (by decide +kernel) (sa_cons rfl (dE_var rfl (by decide +kernel)) (sa_cons rfl (dE_ty (by decide +kernel)) sa_nil))) (dE_blt (by decide +kernel) (sa_cons rfl (dE_var rfl (by decide +kernel)) (sa_cons rfl (dE_ty (by decide +kernel)) sa_nil))))) (ds_cons (dS_ret dE_bl) ds_nil) ds_nil) (ds_cons (dS_iff (dE_cmp rfl (dE_blt (by decide +kernel) (sa_cons rfl (dE_var rfl (by decide +kernel)) sa_nil)) (dE_blt (by decide +kernel) (sa_cons rfl (dE_var rfl (by decide +kernel)) sa_nil))) (ds_cons (dS_ret dE_bl) ds_nil) ds_nil) (ds_cons (dS_for1 (by decide +kernel) (by decide +kernel) rfl (dE_blt (by decide +kernel) (sa_cons rfl (dE_var rfl (by decide +kernel)) sa_nil)) (ds_cons (dS_iff (dE_not (dE_call rfl (by decide +kernel) (sa_cons rfl (dE_ix (fun _ _ => rfl) (dE_var rfl (by decide +kernel)) (dE_var rfl (by decide +kernel))) (sa_cons rfl (dE_ix (fun _ _ => rfl) (dE_var rfl (by decide +kernel)) (dE_var rfl (by decide +kernel))) sa_nil)))) (ds_cons (dS_ret dE_bl) ds_nil) ds_nil) ds_nil)) (ds_cons (dS_ret dE_bl) ds_nil)))) ds_nil) (ds_cons (dS_iff (dE_cmp rfl (dE_var rfl (by decide +kernel)) dE_non) (ds_cons (dS_ret (dE_cmp rfl (dE_var rfl (by decide +kernel)) dE_non)) ds_nil) ds_nil) (ds_cons (dS_iff (dE_or (dE_blt (by decide +kernel) (sa_cons rfl (dE_var rfl (by decide +kernel)) (sa_cons rfl (dE_ty (by decide +kernel)) sa_nil))) (dE_blt (by decide +kernel) (sa_cons rfl (dE_var rfl (by decide +kernel)) (sa_cons rfl (dE_ty (by decide +kernel)) sa_nil)))) (ds_cons (dS_ret (by first | exact dE_and2 (dE_blt (by decide +kernel) (sa_cons rfl (dE_var rfl (by decide +kernel)) (sa_cons rfl (dE_ty (by decide +kernel)) sa_nil))) (dE_and (dE_blt (by decide +kernel) (sa_cons rfl (dE_var rfl (by decide +kernel)) (sa_cons rfl (dE_ty (by decide +kernel)) sa_nil))) (dE_cmp rfl (dE_var rfl (by decide +kernel)) (dE_var rfl (by decide +kernel)))) | exact dE_and (dE_blt (by decide +kernel) (sa_cons rfl (dE_var rfl (by decide +kernel)) (sa_cons rfl (dE_ty (by decide +kernel)) sa_nil))) (dE_and (dE_blt (by decide +kernel) (sa_cons rfl (dE_var rfl (by decide +kernel)) (sa_cons rfl (dE_ty (by decide +kernel)) sa_nil))) (dE_cmp rfl (dE_var rfl (by decide +kernel)) (dE_var rfl (by decide +kernel)))))) ds_nil) ds_nil) (ds_cons (dS_iff (dE_blt (by decide +kernel) (sa_cons rfl (dE_var rfl (by decide +kernel)) (sa_cons rfl (dE_ty (by decide +kernel)) sa_nil))) (ds_cons (dS_ret (dE_and (dE_blt (by decide +kernel) (sa_cons rfl (dE_var rfl (by decide +kernel)) (sa_cons rfl (dE_ty (by decide +kernel)) sa_nil))) (dE_cmp rfl (dE_var rfl (by decide +kernel)) (dE_var rfl (by decide +kernel))))) ds_nil) ds_nil) (ds_cons (dS_ret (dE_and (dE_blt (by decide +kernel) (sa_cons rfl (dE_var rfl (by decide +kernel)) (sa_cons rfl (dE_ty (by decide +kernel)) sa_nil))) (dE_cmp rfl (dE_var rfl (by decide +kernel)) (dE_var rfl (by decide +kernel))))) ds_nil)))))
theorem sc16 : FnScope ["_law_draw"] ["_law_draw"] (defScope (top 22)) := ⟨rfl, rfl, rfl, by decide +kernel, rfl, by decide +kernel, by decide +kernel⟩
set_option maxHeartbeats 0 in
theorem ck16 : SSs ["_law_draw"] (defScope (top 22)) G b16 (defBody (top 22)) := (ds_cons (dS_iff (dE_cmp rfl (dE_bin (dE_var rfl (by decide +kernel)) dE_int) dE_int) (ds_cons (dS_ret (dE_tup (sa_cons rfl dE_str (sa_cons rfl dE_int sa_nil)))) ds_nil) ds_nil) (ds_cons (dS_iff (dE_cmp rfl (dE_bin (dE_var rfl (by decide +kernel)) dE_int) dE_int) (ds_cons (dS_ret (dE_tup (sa_cons rfl dE_str (sa_cons rfl (dE_bin (dE_var rfl (by decide +kernel)) dE_int) sa_nil)))) ds_nil) ds_nil) (ds_cons (dS_ret (dE_tup (sa_cons rfl dE_str (sa_cons rfl (dE_bin (dE_bin (dE_var rfl (by decide +kernel)) dE_int) dE_int) sa_nil)))) ds_nil)))
theorem sc17 : FnScope ["_law_rows_here", "_law_motion_here"] ["_law_rows_here", "_law_motion_here"] (defScope (top 23)) := ⟨rfl, rfl, rfl, by decide +kernel, rfl, by decide +kernel, by decide +kernel⟩
set_option maxHeartbeats 0 in
theorem ck17 : SSs ["_law_rows_here", "_law_motion_here"] (defScope (top 23)) G b17 (defBody (top 23)) := (ds_cons (dS_ret (dE_blt (by decide +kernel) (sa_cons rfl (dE_comp (blk_of (by decide +kernel)) rfl (by decide +kernel) (it_sq (dE_var rfl (by decide +kernel))) sb_nil (dE_bin (dE_call rfl (by decide +kernel) (sa_cons rfl (dE_var rfl (by decide +kernel)) (sa_cons rfl (dE_tup (sa_cons rfl (dE_ix (fun _ _ => rfl) (dE_var rfl (by decide +kernel)) dE_int) (sa_cons rfl (dE_ix (fun _ _ => rfl) (dE_var rfl (by decide +kernel)) dE_int) sa_nil))) sa_nil))) (dE_tup (sa_cons rfl (dE_ix (fun _ _ => rfl) (dE_var rfl (by decide +kernel)) dE_int) (sa_cons rfl (dE_ix (fun _ _ => rfl) (dE_var rfl (by decide +kernel)) dE_int) sa_nil))))) sa_nil))) ds_nil)
theorem sc18 : FnScope ["_law_script", "_law_d", "_law_found", "_law_k", "_law_e", "_law_place", "_law_saying_here"] ["_law_script"] (defScope (top 24)) := ⟨rfl, rfl, rfl, by decide +kernel, rfl, by decide +kernel, by decide +kernel⟩
set_option maxHeartbeats 0 in
theorem ck18 : SSs ["_law_script", "_law_d", "_law_found", "_law_k", "_law_e", "_law_place", "_law_saying_here"] (defScope (top 24)) G b18 (defBody (top 24)) := (ds_cons (dS_asgN rfl (by decide +kernel) rfl (dE_call rfl (by decide +kernel) (sa_cons rfl (dE_var rfl (by decide +kernel)) (sa_cons rfl dE_int (sa_cons rfl dE_int sa_nil))))) (ds_cons (dS_asgN rfl (by decide +kernel) rfl dE_dnt) (ds_cons (dS_for1 (by decide +kernel) (by decide +kernel) rfl (dE_bin dE_int (dE_bin (dE_ix (fun _ _ => rfl) (dE_var rfl (by decide +kernel)) dE_int) dE_int)) (ds_cons (dS_asgN rfl (by decide +kernel) rfl (dE_call rfl (by decide +kernel) (sa_cons rfl (dE_var rfl (by decide +kernel)) (sa_cons rfl (dE_var rfl (by decide +kernel)) (sa_cons rfl dE_int sa_nil))))) (ds_cons (dS_asgN rfl (by decide +kernel) rfl (dE_tup (sa_cons rfl (dE_bin (dE_bin (dE_ix (fun _ _ => rfl) (dE_var rfl (by decide +kernel)) dE_int) dE_int) dE_int) (sa_cons rfl (dE_bin (dE_bin (dE_ix (fun _ _ => rfl) (dE_var rfl (by decide +kernel)) dE_int) dE_int) dE_int) sa_nil)))) (ds_cons (dS_asgN rfl (by decide +kernel) rfl (dE_call rfl (by decide +kernel) (sa_cons rfl (dE_bin dE_int (dE_bin (dE_ix (fun _ _ => rfl) (dE_var rfl (by decide +kernel)) dE_int) dE_int)) sa_nil))) (ds_cons (dS_iff (dE_cmp rfl (dE_bin (dE_bin (dE_ix (fun _ _ => rfl) (dE_var rfl (by decide +kernel)) dE_int) dE_int) dE_int) dE_int) (ds_cons (dS_asgN rfl (by decide +kernel) rfl (dE_call rfl (by decide +kernel) (sa_cons rfl (dE_ix (fun _ _ => rfl) (dE_lst (sa_cons rfl dE_int (sa_cons rfl dE_int sa_nil))) (dE_bin (dE_ix (fun _ _ => rfl) (dE_var rfl (by decide +kernel)) dE_int) dE_int)) sa_nil))) ds_nil) ds_nil) (ds_cons (dS_stx rfl (fun _ _ => rfl) (dE_var rfl (by decide +kernel)) (dE_var rfl (by decide +kernel)) (dE_var rfl (by decide +kernel))) (ds_cons (dS_iff (dE_cmp rfl (dE_bin (dE_ix (fun _ _ => rfl) (dE_var rfl (by decide +kernel)) dE_int) dE_int) dE_int) (ds_cons (dS_stx rfl (fun _ _ => rfl) (dE_var rfl (by decide +kernel)) (dE_var rfl (by decide +kernel)) (dE_call rfl (by decide +kernel) (sa_cons rfl (dE_bin (dE_bin (dE_ix (fun _ _ => rfl) (dE_var rfl (by decide +kernel)) dE_int) dE_int) dE_int) (sa_cons rfl (dE_ix (fun _ _ => rfl) (dE_var rfl (by decide +kernel)) dE_int) (sa_cons rfl (dE_ix (fun _ _ => rfl) (dE_var rfl (by decide +kernel)) dE_int) sa_nil))))) ds_nil) ds_nil) ds_nil))))))) (ds_cons (dS_ret (dE_blt (by decide +kernel) (sa_cons rfl (dE_comp (blk_of (by decide +kernel)) rfl (by decide +kernel) (it_its rfl (dE_var rfl (by decide +kernel))) sb_nil (dE_bin (dE_var rfl (by decide +kernel)) (dE_var rfl (by decide +kernel)))) sa_nil))) ds_nil))))
theorem sc19 : FnScope ["_law_script", "_law_one", "_law_d", "_law_other", "_law_at", "_law_row", "_law_odd", "_law_rest", "_law_due", "_law_turn", "_law_x", "_law_y", "_law_motion_here", "_law_handed", "_law_found"] ["_law_script"] (defScope (top 25)) := ⟨rfl, rfl, rfl, by decide +kernel, rfl, by decide +kernel, by decide +kernel⟩
set_option maxHeartbeats 0 in
theorem ck19 : SSs ["_law_script", "_law_one", "_law_d", "_law_other", "_law_at", "_law_row", "_law_odd", "_law_rest", "_law_due", "_law_turn", "_law_x", "_law_y", "_law_motion_here", "_law_handed", "_law_found"] (defScope (top 25)) G b19 (defBody (top 25)) := (ds_cons (dS_asgN rfl (by decide +kernel) rfl (dE_call rfl (by decide +kernel) (sa_cons rfl (dE_var rfl (by decide +kernel)) sa_nil))) (ds_cons (dS_asgN rfl (by decide +kernel) rfl (dE_call rfl (by decide +kernel) (sa_cons rfl (dE_var rfl (by decide +kernel)) (sa_cons rfl dE_int (sa_cons rfl dE_int sa_nil))))) (ds_cons (dS_asgN rfl (by decide +kernel) rfl (dE_call rfl (by decide +kernel) (sa_cons rfl (dE_var rfl (by decide +kernel)) (sa_cons rfl (dE_call rfl (by decide +kernel) (sa_cons rfl (dE_var rfl (by decide +kernel)) (sa_cons rfl dE_int sa_nil))) sa_nil)))) (ds_cons (dS_iff (dE_cmp rfl (dE_bin (dE_ix (fun _ _ => rfl) (dE_var rfl (by decide +kernel)) dE_int) dE_int) dE_int) (ds_cons (dS_asgN rfl (by decide +kernel) rfl (dE_bin (dE_ix (fun _ _ => rfl) (dE_var rfl (by decide +kernel)) dE_int) (dE_blt (by decide +kernel) (sa_cons rfl (dE_var rfl (by decide +kernel)) sa_nil)))) (ds_cons (dS_asgN rfl (by decide +kernel) rfl (dE_ix (fun _ _ => rfl) (dE_var rfl (by decide +kernel)) (dE_var rfl (by decide +kernel)))) (ds_cons (dS_asgN rfl (by decide +kernel) rfl (dE_lst (sa_cons rfl (dE_tup (sa_cons rfl (dE_ix (fun _ _ => rfl) (dE_var rfl (by decide +kernel)) dE_int) (sa_cons rfl (dE_ix (fun _ _ => rfl) (dE_var rfl (by decide +kernel)) dE_int) (sa_cons rfl dE_str (sa_cons rfl dE_int sa_nil))))) (sa_cons rfl (dE_tup (sa_cons rfl (dE_ix (fun _ _ => rfl) (dE_var rfl (by decide +kernel)) dE_int) (sa_cons rfl (dE_ix (fun _ _ => rfl) (dE_var rfl (by decide +kernel)) dE_int) (sa_cons rfl dE_str (sa_cons rfl dE_int sa_nil))))) (sa_cons rfl (dE_tup (sa_cons rfl (dE_bin (dE_ix (fun _ _ => rfl) (dE_var rfl (by decide +kernel)) dE_int) dE_int) (sa_cons rfl (dE_bin (dE_ix (fun _ _ => rfl) (dE_var rfl (by decide +kernel)) dE_int) dE_int) (sa_cons rfl dE_str (sa_cons rfl dE_int sa_nil))))) sa_nil))))) (ds_cons (dS_asgN rfl (by decide +kernel) rfl (dE_bin (dE_slU (dE_var rfl (by decide +kernel)) (dE_var rfl (by decide +kernel))) (dE_slL (dE_var rfl (by decide +kernel)) (dE_bin (dE_var rfl (by decide +kernel)) dE_int)))) (ds_cons (dS_iff (dE_or (dE_not (dE_var rfl (by decide +kernel))) (dE_cmp rfl (dE_bin (dE_ix (fun _ _ => rfl) (dE_var rfl (by decide +kernel)) dE_int) dE_int) dE_int)) (ds_cons (dS_asgN rfl (by decide +kernel) rfl (dE_bin (dE_var rfl (by decide +kernel)) (dE_lst (sa_cons rfl (dE_ix (fun _ _ => rfl) (dE_var rfl (by decide +kernel)) (dE_bin (dE_ix (fun _ _ => rfl) (dE_var rfl (by decide +kernel)) dE_int) dE_int)) sa_nil)))) ds_nil) ds_nil) (ds_cons (dS_asgN rfl (by decide +kernel) rfl (dE_blt (by decide +kernel) (sa_cons rfl (dE_var rfl (by decide +kernel)) sa_nil))) ds_nil)))))) ds_nil) (ds_cons (dS_asgN rfl (by decide +kernel) rfl (dE_lst sa_nil)) (ds_cons (dS_for1 (by decide +kernel) (by decide +kernel) rfl dE_int (ds_cons (dS_asgT (by decide +kernel) rfl (fun _ => rfl) (dE_call rfl (by decide +kernel) (sa_cons rfl (dE_var rfl (by decide +kernel)) (sa_cons rfl (dE_ix (fun _ _ => rfl) (dE_ix (fun _ _ => rfl) (dE_var rfl (by decide +kernel)) dE_int) dE_int) (sa_cons rfl (dE_ix (fun _ _ => rfl) (dE_ix (fun _ _ => rfl) (dE_var rfl (by decide +kernel)) dE_int) dE_int) sa_nil))))) (ds_cons (dS_forS (by decide +kernel) (fun _ _ => rfl) (dE_var rfl (by decide +kernel)) (ds_cons (dS_asgN rfl (by decide +kernel) rfl (dE_tup (sa_cons rfl (dE_var rfl (by decide +kernel)) (sa_cons rfl (dE_bin (dE_ix (fun _ _ => rfl) (dE_var rfl (by decide +kernel)) dE_int) (dE_var rfl (by decide +kernel))) (sa_cons rfl (dE_bin (dE_ix (fun _ _ => rfl) (dE_var rfl (by decide +kernel)) dE_int) (dE_var rfl (by decide +kernel))) sa_nil))))) (ds_cons (dS_iff (dE_cmp rfl (dE_call rfl (by decide +kernel) (sa_cons rfl (dE_var rfl (by decide +kernel)) (sa_cons rfl (dE_var rfl (by decide +kernel)) sa_nil))) (dE_var rfl (by decide +kernel))) (ds_cons (dS_ex rfl (dE_app rfl rfl (dE_var rfl (by decide +kernel)) (dE_var rfl (by decide +kernel)))) ds_nil) ds_nil) ds_nil))) ds_nil))) (ds_cons (dS_asgN rfl (by decide +kernel) rfl (dE_lst (sa_cons rfl (dE_blt (by decide +kernel) (sa_cons rfl (dE_var rfl (by decide +kernel)) sa_nil)) (sa_cons rfl (dE_blt (by decide +kernel) (sa_cons rfl (dE_var rfl (by decide +kernel)) sa_nil)) sa_nil)))) (ds_cons (dS_asgN rfl (by decide +kernel) rfl (dE_call rfl (by decide +kernel) (sa_cons rfl (dE_ix (fun _ _ => rfl) (dE_var rfl (by decide +kernel)) dE_int) (sa_cons rfl (dE_ix (fun _ _ => rfl) (dE_var rfl (by decide +kernel)) dE_int) sa_nil)))) (ds_cons (dS_ret (dE_and (dE_call rfl (by decide +kernel) (sa_cons rfl (dE_var rfl (by decide +kernel)) (sa_cons rfl (dE_blt (by decide +kernel) (sa_cons rfl (dE_var rfl (by decide +kernel)) sa_nil)) sa_nil))) (dE_call rfl (by decide +kernel) (sa_cons rfl (dE_var rfl (by decide +kernel)) (sa_cons rfl (dE_lst (sa_cons rfl (dE_var rfl (by decide +kernel)) (sa_cons rfl (dE_var rfl (by decide +kernel)) sa_nil))) sa_nil))))) ds_nil)))))))))
set_option maxHeartbeats 0 in
theorem all_mk {K : PySem.W.Frag} {h : Heap} {mg : Str → Option Value} {fa : Addr} (X : K.In h) (Gn : h.Ns mainGlobals mg) (hfa : mg "law" = some (.ref fa))
    {f0 : Addr} {oc0 kV0 dc0 pm0 cd0 ct0 : Value} {od0 an0 : Option Addr} {sl0 : Array (Option Value)} {f1 : Addr} {oc1 kV1 dc1 pm1 cd1 ct1 : Value} {od1 an1 : Option Addr} {sl1 : Array (Option Value)} {f2 : Addr} {oc2 kV2 dc2 pm2 cd2 ct2 : Value} {od2 an2 : Option Addr} {sl2 : Array (Option Value)} {f3 : Addr} {oc3 kV3 dc3 pm3 cd3 ct3 : Value} {od3 an3 : Option Addr} {sl3 : Array (Option Value)} {f4 : Addr} {oc4 kV4 dc4 pm4 cd4 ct4 : Value} {od4 an4 : Option Addr} {sl4 : Array (Option Value)} {f5 : Addr} {oc5 kV5 dc5 pm5 cd5 ct5 : Value} {od5 an5 : Option Addr} {sl5 : Array (Option Value)} {f6 : Addr} {oc6 kV6 dc6 pm6 cd6 ct6 : Value} {od6 an6 : Option Addr} {sl6 : Array (Option Value)} {f7 : Addr} {oc7 kV7 dc7 pm7 cd7 ct7 : Value} {od7 an7 : Option Addr} {sl7 : Array (Option Value)} {f8 : Addr} {oc8 kV8 dc8 pm8 cd8 ct8 : Value} {od8 an8 : Option Addr} {sl8 : Array (Option Value)} {f9 : Addr} {oc9 kV9 dc9 pm9 cd9 ct9 : Value} {od9 an9 : Option Addr} {sl9 : Array (Option Value)} {f10 : Addr} {oc10 kV10 dc10 pm10 cd10 ct10 : Value} {od10 an10 : Option Addr} {sl10 : Array (Option Value)} {f11 : Addr} {oc11 kV11 dc11 pm11 cd11 ct11 : Value} {od11 an11 : Option Addr} {sl11 : Array (Option Value)} {f12 : Addr} {oc12 kV12 dc12 pm12 cd12 ct12 : Value} {od12 an12 : Option Addr} {sl12 : Array (Option Value)} {f13 : Addr} {oc13 kV13 dc13 pm13 cd13 ct13 : Value} {od13 an13 : Option Addr} {sl13 : Array (Option Value)} {f14 : Addr} {oc14 kV14 dc14 pm14 cd14 ct14 : Value} {od14 an14 : Option Addr} {sl14 : Array (Option Value)} {f15 : Addr} {oc15 kV15 dc15 pm15 cd15 ct15 : Value} {od15 an15 : Option Addr} {sl15 : Array (Option Value)} {f16 : Addr} {oc16 kV16 dc16 pm16 cd16 ct16 : Value} {od16 an16 : Option Addr} {sl16 : Array (Option Value)} {f17 : Addr} {oc17 kV17 dc17 pm17 cd17 ct17 : Value} {od17 an17 : Option Addr} {sl17 : Array (Option Value)} {f18 : Addr} {oc18 kV18 dc18 pm18 cd18 ct18 : Value} {od18 an18 : Option Addr} {sl18 : Array (Option Value)} {f19 : Addr} {oc19 kV19 dc19 pm19 cd19 ct19 : Value} {od19 an19 : Option Addr} {sl19 : Array (Option Value)} {t0 : Addr} {td0 : Option Addr} {ts0 : Array (Option Value)} {tn0 : Nat} {u1 : Tok} {u2 : Tok} {t3 : Addr} {td3 : Option Addr} {ts3 : Array (Option Value)} {tn3 : Nat} {t4 : Addr} {td4 : Option Addr} {ts4 : Array (Option Value)} {tn4 : Nat} {u5 : Tok} {u6 : Tok} {u7 : Tok} {u8 : Tok} {t9 : Addr} {td9 : Option Addr} {ts9 : Array (Option Value)} {tn9 : Nat} {u10 : Tok} {u11 : Tok} {u12 : Tok} {u13 : Tok} {t14 : Addr} {td14 : Option Addr} {ts14 : Array (Option Value)} {tn14 : Nat} {u15 : Tok} {u16 : Tok} {u17 : Tok} {u18 : Tok} {t19 : Addr} {td19 : Option Addr} {ts19 : Array (Option Value)} {tn19 : Nat} {u20 : Tok} {u21 : Tok} {u22 : Tok} {u23 : Tok} {t24 : Addr} {td24 : Option Addr} {ts24 : Array (Option Value)} {tn24 : Nat} {u25 : Tok} {u26 : Tok} {u27 : Tok} {u28 : Tok} {t29 : Addr} {td29 : Option Addr} {ts29 : Array (Option Value)} {tn29 : Nat} {u30 : Tok} {u31 : Tok} {u32 : Tok} {u33 : Tok} {t34 : Addr} {td34 : Option Addr} {ts34 : Array (Option Value)} {tn34 : Nat} {u35 : Tok} {u36 : Tok} {u37 : Tok} {u38 : Tok} {t39 : Addr} {td39 : Option Addr} {ts39 : Array (Option Value)} {tn39 : Nat} {u40 : Tok} {u41 : Tok} {u42 : Tok} {u43 : Tok} {u44 : Tok}
    (fa0 : PySem.W.nsIn K mainGlobals "turned" = some (some (.ref f0)))
    (fl0 : K.lookup f0 = some ⟨oc0, od0, .func (PySem.W.fnOf "turned" "turned" (defArgs (top 4)) (defBody (top 4)) (defScope (top 4)) .none kV0 dc0 pm0 an0 cd0 ct0), sl0⟩)
    (fc0 : PySem.W.codeIn K cd0 "turned" = true)
    (fk0 : PySem.W.keepIn K (.ref f0) = true)
    (fa1 : PySem.W.nsIn K mainGlobals "turn_behind" = some (some (.ref f1)))
    (fl1 : K.lookup f1 = some ⟨oc1, od1, .func (PySem.W.fnOf "turn_behind" "turn_behind" (defArgs (top 5)) (defBody (top 5)) (defScope (top 5)) .none kV1 dc1 pm1 an1 cd1 ct1), sl1⟩)
    (fc1 : PySem.W.codeIn K cd1 "turn_behind" = true)
    (fk1 : PySem.W.keepIn K (.ref f1) = true)
    (fa2 : PySem.W.nsIn K mainGlobals "moved" = some (some (.ref f2)))
    (fl2 : K.lookup f2 = some ⟨oc2, od2, .func (PySem.W.fnOf "moved" "moved" (defArgs (top 6)) (defBody (top 6)) (defScope (top 6)) .none kV2 dc2 pm2 an2 cd2 ct2), sl2⟩)
    (fc2 : PySem.W.codeIn K cd2 "moved" = true)
    (fk2 : PySem.W.keepIn K (.ref f2) = true)
    (fa3 : PySem.W.nsIn K mainGlobals "leading" = some (some (.ref f3)))
    (fl3 : K.lookup f3 = some ⟨oc3, od3, .func (PySem.W.fnOf "leading" "leading" (defArgs (top 7)) (defBody (top 7)) (defScope (top 7)) .none kV3 dc3 pm3 an3 cd3 ct3), sl3⟩)
    (fc3 : PySem.W.codeIn K cd3 "leading" = true)
    (fk3 : PySem.W.keepIn K (.ref f3) = true)
    (fa4 : PySem.W.nsIn K mainGlobals "behind" = some (some (.ref f4)))
    (fl4 : K.lookup f4 = some ⟨oc4, od4, .func (PySem.W.fnOf "behind" "behind" (defArgs (top 8)) (defBody (top 8)) (defScope (top 8)) .none kV4 dc4 pm4 an4 cd4 ct4), sl4⟩)
    (fc4 : PySem.W.codeIn K cd4 "behind" = true)
    (fk4 : PySem.W.keepIn K (.ref f4) = true)
    (fa5 : PySem.W.nsIn K mainGlobals "led_rows" = some (some (.ref f5)))
    (fl5 : K.lookup f5 = some ⟨oc5, od5, .func (PySem.W.fnOf "led_rows" "led_rows" (defArgs (top 10)) (defBody (top 10)) (defScope (top 10)) .none kV5 dc5 pm5 an5 cd5 ct5), sl5⟩)
    (fc5 : PySem.W.codeIn K cd5 "led_rows" = true)
    (fk5 : PySem.W.keepIn K (.ref f5) = true)
    (fa6 : PySem.W.nsIn K mainGlobals "corner" = some (some (.ref f6)))
    (fl6 : K.lookup f6 = some ⟨oc6, od6, .func (PySem.W.fnOf "corner" "corner" (defArgs (top 11)) (defBody (top 11)) (defScope (top 11)) .none kV6 dc6 pm6 an6 cd6 ct6), sl6⟩)
    (fc6 : PySem.W.codeIn K cd6 "corner" = true)
    (fk6 : PySem.W.keepIn K (.ref f6) = true)
    (fa7 : PySem.W.nsIn K mainGlobals "cornering" = some (some (.ref f7)))
    (fl7 : K.lookup f7 = some ⟨oc7, od7, .func (PySem.W.fnOf "cornering" "cornering" (defArgs (top 12)) (defBody (top 12)) (defScope (top 12)) .none kV7 dc7 pm7 an7 cd7 ct7), sl7⟩)
    (fc7 : PySem.W.codeIn K cd7 "cornering" = true)
    (fk7 : PySem.W.keepIn K (.ref f7) = true)
    (fa8 : PySem.W.nsIn K mainGlobals "cornerings" = some (some (.ref f8)))
    (fl8 : K.lookup f8 = some ⟨oc8, od8, .func (PySem.W.fnOf "cornerings" "cornerings" (defArgs (top 13)) (defBody (top 13)) (defScope (top 13)) .none kV8 dc8 pm8 an8 cd8 ct8), sl8⟩)
    (fc8 : PySem.W.codeIn K cd8 "cornerings" = true)
    (fk8 : PySem.W.keepIn K (.ref f8) = true)
    (fa9 : PySem.W.nsIn K mainGlobals "matches" = some (some (.ref f9)))
    (fl9 : K.lookup f9 = some ⟨oc9, od9, .func (PySem.W.fnOf "matches" "matches" (defArgs (top 14)) (defBody (top 14)) (defScope (top 14)) .none kV9 dc9 pm9 an9 cd9 ct9), sl9⟩)
    (fc9 : PySem.W.codeIn K cd9 "matches" = true)
    (fk9 : PySem.W.keepIn K (.ref f9) = true)
    (fa10 : PySem.W.nsIn K mainGlobals "_law_draws" = some (some (.ref f10)))
    (fl10 : K.lookup f10 = some ⟨oc10, od10, .func (PySem.W.fnOf "_law_draws" "_law_draws" (defArgs (top 16)) (defBody (top 16)) (defScope (top 16)) .none kV10 dc10 pm10 an10 cd10 ct10), sl10⟩)
    (fc10 : PySem.W.codeIn K cd10 "_law_draws" = true)
    (fk10 : PySem.W.keepIn K (.ref f10) = true)
    (fa11 : PySem.W.nsIn K mainGlobals "_law_far" = some (some (.ref f11)))
    (fl11 : K.lookup f11 = some ⟨oc11, od11, .func (PySem.W.fnOf "_law_far" "_law_far" (defArgs (top 17)) (defBody (top 17)) (defScope (top 17)) .none kV11 dc11 pm11 an11 cd11 ct11), sl11⟩)
    (fc11 : PySem.W.codeIn K cd11 "_law_far" = true)
    (fk11 : PySem.W.keepIn K (.ref f11) = true)
    (fa12 : PySem.W.nsIn K mainGlobals "_law_turned" = some (some (.ref f12)))
    (fl12 : K.lookup f12 = some ⟨oc12, od12, .func (PySem.W.fnOf "_law_turned" "_law_turned" (defArgs (top 18)) (defBody (top 18)) (defScope (top 18)) .none kV12 dc12 pm12 an12 cd12 ct12), sl12⟩)
    (fc12 : PySem.W.codeIn K cd12 "_law_turned" = true)
    (fk12 : PySem.W.keepIn K (.ref f12) = true)
    (fa13 : PySem.W.nsIn K mainGlobals "_law_moved" = some (some (.ref f13)))
    (fl13 : K.lookup f13 = some ⟨oc13, od13, .func (PySem.W.fnOf "_law_moved" "_law_moved" (defArgs (top 19)) (defBody (top 19)) (defScope (top 19)) .none kV13 dc13 pm13 an13 cd13 ct13), sl13⟩)
    (fc13 : PySem.W.codeIn K cd13 "_law_moved" = true)
    (fk13 : PySem.W.keepIn K (.ref f13) = true)
    (fa14 : PySem.W.nsIn K mainGlobals "_law_motion" = some (some (.ref f14)))
    (fl14 : K.lookup f14 = some ⟨oc14, od14, .func (PySem.W.fnOf "_law_motion" "_law_motion" (defArgs (top 20)) (defBody (top 20)) (defScope (top 20)) .none kV14 dc14 pm14 an14 cd14 ct14), sl14⟩)
    (fc14 : PySem.W.codeIn K cd14 "_law_motion" = true)
    (fk14 : PySem.W.keepIn K (.ref f14) = true)
    (fa15 : PySem.W.nsIn K mainGlobals "_law_same" = some (some (.ref f15)))
    (fl15 : K.lookup f15 = some ⟨oc15, od15, .func (PySem.W.fnOf "_law_same" "_law_same" (defArgs (top 21)) (defBody (top 21)) (defScope (top 21)) .none kV15 dc15 pm15 an15 cd15 ct15), sl15⟩)
    (fc15 : PySem.W.codeIn K cd15 "_law_same" = true)
    (fk15 : PySem.W.keepIn K (.ref f15) = true)
    (fa16 : PySem.W.nsIn K mainGlobals "_law_saying" = some (some (.ref f16)))
    (fl16 : K.lookup f16 = some ⟨oc16, od16, .func (PySem.W.fnOf "_law_saying" "_law_saying" (defArgs (top 22)) (defBody (top 22)) (defScope (top 22)) .none kV16 dc16 pm16 an16 cd16 ct16), sl16⟩)
    (fc16 : PySem.W.codeIn K cd16 "_law_saying" = true)
    (fk16 : PySem.W.keepIn K (.ref f16) = true)
    (fa17 : PySem.W.nsIn K mainGlobals "_law_rows_led" = some (some (.ref f17)))
    (fl17 : K.lookup f17 = some ⟨oc17, od17, .func (PySem.W.fnOf "_law_rows_led" "_law_rows_led" (defArgs (top 23)) (defBody (top 23)) (defScope (top 23)) .none kV17 dc17 pm17 an17 cd17 ct17), sl17⟩)
    (fc17 : PySem.W.codeIn K cd17 "_law_rows_led" = true)
    (fk17 : PySem.W.keepIn K (.ref f17) = true)
    (fa18 : PySem.W.nsIn K mainGlobals "_law_rows" = some (some (.ref f18)))
    (fl18 : K.lookup f18 = some ⟨oc18, od18, .func (PySem.W.fnOf "_law_rows" "_law_rows" (defArgs (top 24)) (defBody (top 24)) (defScope (top 24)) .none kV18 dc18 pm18 an18 cd18 ct18), sl18⟩)
    (fc18 : PySem.W.codeIn K cd18 "_law_rows" = true)
    (fk18 : PySem.W.keepIn K (.ref f18) = true)
    (fa19 : PySem.W.nsIn K mainGlobals "law" = some (some (.ref f19)))
    (fl19 : K.lookup f19 = some ⟨oc19, od19, .func (PySem.W.fnOf "law" "law" (defArgs (top 25)) (defBody (top 25)) (defScope (top 25)) .none kV19 dc19 pm19 an19 cd19 ct19), sl19⟩)
    (fc19 : PySem.W.codeIn K cd19 "law" = true)
    (fk19 : PySem.W.keepIn K (.ref f19) = true)
    (ga0 : PySem.W.nsIn K mainGlobals "ORIGIN" = some (some (.ref t0)))
    (tt0 : K.lookup t0 = some ⟨.type "tuple", td0, .seq #[.int (0) u1, .int (0) u2] tn0, ts0⟩)
    (ga1 : PySem.W.nsIn K mainGlobals "TURNS" = some (some (.ref t3)))
    (tt3 : K.lookup t3 = some ⟨.type "tuple", td3, .seq #[.ref t4, .ref t9, .ref t14, .ref t19, .ref t24, .ref t29, .ref t34, .ref t39] tn3, ts3⟩)
    (tt4 : K.lookup t4 = some ⟨.type "tuple", td4, .seq #[.int (1) u5, .int (0) u6, .int (0) u7, .int (1) u8] tn4, ts4⟩)
    (tt9 : K.lookup t9 = some ⟨.type "tuple", td9, .seq #[.int (0) u10, .int (-1) u11, .int (1) u12, .int (0) u13] tn9, ts9⟩)
    (tt14 : K.lookup t14 = some ⟨.type "tuple", td14, .seq #[.int (-1) u15, .int (0) u16, .int (0) u17, .int (-1) u18] tn14, ts14⟩)
    (tt19 : K.lookup t19 = some ⟨.type "tuple", td19, .seq #[.int (0) u20, .int (1) u21, .int (-1) u22, .int (0) u23] tn19, ts19⟩)
    (tt24 : K.lookup t24 = some ⟨.type "tuple", td24, .seq #[.int (-1) u25, .int (0) u26, .int (0) u27, .int (1) u28] tn24, ts24⟩)
    (tt29 : K.lookup t29 = some ⟨.type "tuple", td29, .seq #[.int (0) u30, .int (-1) u31, .int (-1) u32, .int (0) u33] tn29, ts29⟩)
    (tt34 : K.lookup t34 = some ⟨.type "tuple", td34, .seq #[.int (1) u35, .int (0) u36, .int (0) u37, .int (-1) u38] tn34, ts34⟩)
    (tt39 : K.lookup t39 = some ⟨.type "tuple", td39, .seq #[.int (0) u40, .int (1) u41, .int (1) u42, .int (0) u43] tn39, ts39⟩)
    (ga2 : PySem.W.nsIn K mainGlobals "MIRRORED" = some (some (.int (4) u44)))
    (z_len : PySem.W.nsIn K mainGlobals "len" = some none)
    (z_isinstance : PySem.W.nsIn K mainGlobals "isinstance" = some none)
    (z_int : PySem.W.nsIn K mainGlobals "int" = some none)
    (z_list : PySem.W.nsIn K mainGlobals "list" = some none)
    (z_bool : PySem.W.nsIn K mainGlobals "bool" = some none)
    (z_str : PySem.W.nsIn K mainGlobals "str" = some none)
    (z_tuple : PySem.W.nsIn K mainGlobals "tuple" = some none)
    (z_range : PySem.W.nsIn K mainGlobals "range" = some none)
    (z_max : PySem.W.nsIn K mainGlobals "max" = some none)
    (z_min : PySem.W.nsIn K mainGlobals "min" = some none)
    (z_sorted : PySem.W.nsIn K mainGlobals "sorted" = some none)
    (z_ValueError : PySem.W.nsIn K mainGlobals "ValueError" = some none)
    : ∃ ca : Nat → Addr, PrOk K mg G ca T ∧ ∃ fd : FuncData, (∀ (s : Shared) (u : Value), BindsTo s fd ⟨[u], []⟩ [("_law_script", u)]) ∧ ∃ c st N qual, T 19 = some c ∧ Fun K "law" qual st fa fd ∧ FnScope N ["_law_script"] (defScope st) ∧ 1 = c.np ∧ N.length = c.ns ∧ SSs N (defScope st) G c.body (defBody st) := by
  have e := hfa.symm.trans (PySem.W.mg_of X Gn fa19)
  cases e
  have F0 := fun_mk (st := top 4) fl0 fc0 fk0
  have B0 := F0.binds (ps := ["turn", "place"]) fun _ _ _ _ _ _ us hl => by obtain ⟨u0, u1, rfl⟩ := len2 hl; rfl
  have F1 := fun_mk (st := top 5) fl1 fc1 fk1
  have B1 := F1.binds (ps := ["first", "second"]) fun _ _ _ _ _ _ us hl => by obtain ⟨u0, u1, rfl⟩ := len2 hl; rfl
  have F2 := fun_mk (st := top 6) fl2 fc2 fk2
  have B2 := F2.binds (ps := ["motion", "place"]) fun _ _ _ _ _ _ us hl => by obtain ⟨u0, u1, rfl⟩ := len2 hl; rfl
  have F3 := fun_mk (st := top 7) fl3 fc3 fk3
  have B3 := F3.binds (ps := ["turn", "place", "goal"]) fun _ _ _ _ _ _ us hl => by obtain ⟨u0, u1, u2, rfl⟩ := len3 hl; rfl
  have F4 := fun_mk (st := top 8) fl4 fc4 fk4
  have B4 := F4.binds (ps := ["first", "second"]) fun _ _ _ _ _ _ us hl => by obtain ⟨u0, u1, rfl⟩ := len2 hl; rfl
  have F5 := fun_mk (st := top 10) fl5 fc5 fk5
  have B5 := F5.binds (ps := ["rows", "motion"]) fun _ _ _ _ _ _ us hl => by obtain ⟨u0, u1, rfl⟩ := len2 hl; rfl
  have F6 := fun_mk (st := top 11) fl6 fc6 fk6
  have B6 := F6.binds (ps := ["places"]) fun _ _ _ _ _ _ us hl => by obtain ⟨u0, rfl⟩ := len1 hl; rfl
  have F7 := fun_mk (st := top 12) fl7 fc7 fk7
  have B7 := F7.binds (ps := ["turn", "rows", "goal"]) fun _ _ _ _ _ _ us hl => by obtain ⟨u0, u1, u2, rfl⟩ := len3 hl; rfl
  have F8 := fun_mk (st := top 13) fl8 fc8 fk8
  have B8 := F8.binds (ps := ["rows", "goal"]) fun _ _ _ _ _ _ us hl => by obtain ⟨u0, u1, rfl⟩ := len2 hl; rfl
  have F9 := fun_mk (st := top 14) fl9 fc9 fk9
  have B9 := F9.binds (ps := ["one", "other"]) fun _ _ _ _ _ _ us hl => by obtain ⟨u0, u1, rfl⟩ := len2 hl; rfl
  have F10 := fun_mk (st := top 16) fl10 fc10 fk10
  have B10 := F10.binds (ps := ["_law_script", "_law_at", "_law_many"]) fun _ _ _ _ _ _ us hl => by obtain ⟨u0, u1, u2, rfl⟩ := len3 hl; rfl
  have F11 := fun_mk (st := top 17) fl11 fc11 fk11
  have B11 := F11.binds (ps := ["_law_one", "_law_two"]) fun _ _ _ _ _ _ us hl => by obtain ⟨u0, u1, rfl⟩ := len2 hl; rfl
  have F12 := fun_mk (st := top 18) fl12 fc12 fk12
  have B12 := F12.binds (ps := ["_law_turn", "_law_x", "_law_y"]) fun _ _ _ _ _ _ us hl => by obtain ⟨u0, u1, u2, rfl⟩ := len3 hl; rfl
  have F13 := fun_mk (st := top 19) fl13 fc13 fk13
  have B13 := F13.binds (ps := ["_law_motion_here", "_law_place"]) fun _ _ _ _ _ _ us hl => by obtain ⟨u0, u1, rfl⟩ := len2 hl; rfl
  have F14 := fun_mk (st := top 20) fl14 fc14 fk14
  have B14 := F14.binds (ps := ["_law_d", "_law_at"]) fun _ _ _ _ _ _ us hl => by obtain ⟨u0, u1, rfl⟩ := len2 hl; rfl
  have F15 := fun_mk (st := top 21) fl15 fc15 fk15
  have B15 := F15.binds (ps := ["_law_found", "_law_due"]) fun _ _ _ _ _ _ us hl => by obtain ⟨u0, u1, rfl⟩ := len2 hl; rfl
  have F16 := fun_mk (st := top 22) fl16 fc16 fk16
  have B16 := F16.binds (ps := ["_law_draw"]) fun _ _ _ _ _ _ us hl => by obtain ⟨u0, rfl⟩ := len1 hl; rfl
  have F17 := fun_mk (st := top 23) fl17 fc17 fk17
  have B17 := F17.binds (ps := ["_law_rows_here", "_law_motion_here"]) fun _ _ _ _ _ _ us hl => by obtain ⟨u0, u1, rfl⟩ := len2 hl; rfl
  have F18 := fun_mk (st := top 24) fl18 fc18 fk18
  have B18 := F18.binds (ps := ["_law_script"]) fun _ _ _ _ _ _ us hl => by obtain ⟨u0, rfl⟩ := len1 hl; rfl
  have F19 := fun_mk (st := top 25) fl19 fc19 fk19
  have B19 := F19.binds (ps := ["_law_script"]) fun _ _ _ _ _ _ us hl => by obtain ⟨u0, rfl⟩ := len1 hl; rfl
  refine ⟨fun i => ([] : List Addr).getD i 0, ⟨fun f x hf => ?_, fun g x d hg => ?_, fun b => ?_, fun t => ?_, PySem.W.mg_none_of X Gn z_range, fun c x hx => ?_, fun q hq => ?_, PySem.W.mg_none_of X Gn z_ValueError⟩, ?_⟩
  · refine AllP.get0 (P := fun f x => ∃ c, T f = some c ∧ FcOk K mg G x c) (l := G.fns) ?_ hf
    refine And.intro ⟨_, rfl, _, _, _, _, _, _, F0, sc0, rfl, rfl, B0, PySem.W.mg_of X Gn fa0, ck0⟩ ?_
    refine And.intro ⟨_, rfl, _, _, _, _, _, _, F1, sc1, rfl, rfl, B1, PySem.W.mg_of X Gn fa1, ck1⟩ ?_
    refine And.intro ⟨_, rfl, _, _, _, _, _, _, F2, sc2, rfl, rfl, B2, PySem.W.mg_of X Gn fa2, ck2⟩ ?_
    refine And.intro ⟨_, rfl, _, _, _, _, _, _, F3, sc3, rfl, rfl, B3, PySem.W.mg_of X Gn fa3, ck3⟩ ?_
    refine And.intro ⟨_, rfl, _, _, _, _, _, _, F4, sc4, rfl, rfl, B4, PySem.W.mg_of X Gn fa4, ck4⟩ ?_
    refine And.intro ⟨_, rfl, _, _, _, _, _, _, F5, sc5, rfl, rfl, B5, PySem.W.mg_of X Gn fa5, ck5⟩ ?_
    refine And.intro ⟨_, rfl, _, _, _, _, _, _, F6, sc6, rfl, rfl, B6, PySem.W.mg_of X Gn fa6, ck6⟩ ?_
    refine And.intro ⟨_, rfl, _, _, _, _, _, _, F7, sc7, rfl, rfl, B7, PySem.W.mg_of X Gn fa7, ck7⟩ ?_
    refine And.intro ⟨_, rfl, _, _, _, _, _, _, F8, sc8, rfl, rfl, B8, PySem.W.mg_of X Gn fa8, ck8⟩ ?_
    refine And.intro ⟨_, rfl, _, _, _, _, _, _, F9, sc9, rfl, rfl, B9, PySem.W.mg_of X Gn fa9, ck9⟩ ?_
    refine And.intro ⟨_, rfl, _, _, _, _, _, _, F10, sc10, rfl, rfl, B10, PySem.W.mg_of X Gn fa10, ck10⟩ ?_
    refine And.intro ⟨_, rfl, _, _, _, _, _, _, F11, sc11, rfl, rfl, B11, PySem.W.mg_of X Gn fa11, ck11⟩ ?_
    refine And.intro ⟨_, rfl, _, _, _, _, _, _, F12, sc12, rfl, rfl, B12, PySem.W.mg_of X Gn fa12, ck12⟩ ?_
    refine And.intro ⟨_, rfl, _, _, _, _, _, _, F13, sc13, rfl, rfl, B13, PySem.W.mg_of X Gn fa13, ck13⟩ ?_
    refine And.intro ⟨_, rfl, _, _, _, _, _, _, F14, sc14, rfl, rfl, B14, PySem.W.mg_of X Gn fa14, ck14⟩ ?_
    refine And.intro ⟨_, rfl, _, _, _, _, _, _, F15, sc15, rfl, rfl, B15, PySem.W.mg_of X Gn fa15, ck15⟩ ?_
    refine And.intro ⟨_, rfl, _, _, _, _, _, _, F16, sc16, rfl, rfl, B16, PySem.W.mg_of X Gn fa16, ck16⟩ ?_
    refine And.intro ⟨_, rfl, _, _, _, _, _, _, F17, sc17, rfl, rfl, B17, PySem.W.mg_of X Gn fa17, ck17⟩ ?_
    refine And.intro ⟨_, rfl, _, _, _, _, _, _, F18, sc18, rfl, rfl, B18, PySem.W.mg_of X Gn fa18, ck18⟩ ?_
    refine And.intro ⟨_, rfl, _, _, _, _, _, _, F19, sc19, rfl, rfl, B19, PySem.W.mg_of X Gn fa19, ck19⟩ ?_
    exact trivial
  · refine AllP.get0 (P := fun _ p => ∃ v u, mg p.1 = some u ∧ RelV v u ∧ ∀ m H, RD K m H p.2 v) (l := G.csts) ?_ hg
    refine And.intro ⟨V.ref t0, _, PySem.W.mg_of X Gn ga0, rfl, fun m H => cstT (vs := [V.int (0), V.int (0)]) tt0 (by show 2 ≤ sizeLine; decide) (.cons ⟨_, rfl⟩ (.cons ⟨_, rfl⟩ .nil)) (.cons (RD.int _) (.cons (RD.int _) .nil))⟩ ?_
    refine And.intro ⟨V.ref t3, _, PySem.W.mg_of X Gn ga1, rfl, fun m H => cstT (vs := [V.ref t4, V.ref t9, V.ref t14, V.ref t19, V.ref t24, V.ref t29, V.ref t34, V.ref t39]) tt3 (by show 8 ≤ sizeLine; decide) (.cons rfl (.cons rfl (.cons rfl (.cons rfl (.cons rfl (.cons rfl (.cons rfl (.cons rfl .nil)))))))) (.cons (cstT (vs := [V.int (1), V.int (0), V.int (0), V.int (1)]) tt4 (by show 4 ≤ sizeLine; decide) (.cons ⟨_, rfl⟩ (.cons ⟨_, rfl⟩ (.cons ⟨_, rfl⟩ (.cons ⟨_, rfl⟩ .nil)))) (.cons (RD.int _) (.cons (RD.int _) (.cons (RD.int _) (.cons (RD.int _) .nil))))) (.cons (cstT (vs := [V.int (0), V.int (-1), V.int (1), V.int (0)]) tt9 (by show 4 ≤ sizeLine; decide) (.cons ⟨_, rfl⟩ (.cons ⟨_, rfl⟩ (.cons ⟨_, rfl⟩ (.cons ⟨_, rfl⟩ .nil)))) (.cons (RD.int _) (.cons (RD.int _) (.cons (RD.int _) (.cons (RD.int _) .nil))))) (.cons (cstT (vs := [V.int (-1), V.int (0), V.int (0), V.int (-1)]) tt14 (by show 4 ≤ sizeLine; decide) (.cons ⟨_, rfl⟩ (.cons ⟨_, rfl⟩ (.cons ⟨_, rfl⟩ (.cons ⟨_, rfl⟩ .nil)))) (.cons (RD.int _) (.cons (RD.int _) (.cons (RD.int _) (.cons (RD.int _) .nil))))) (.cons (cstT (vs := [V.int (0), V.int (1), V.int (-1), V.int (0)]) tt19 (by show 4 ≤ sizeLine; decide) (.cons ⟨_, rfl⟩ (.cons ⟨_, rfl⟩ (.cons ⟨_, rfl⟩ (.cons ⟨_, rfl⟩ .nil)))) (.cons (RD.int _) (.cons (RD.int _) (.cons (RD.int _) (.cons (RD.int _) .nil))))) (.cons (cstT (vs := [V.int (-1), V.int (0), V.int (0), V.int (1)]) tt24 (by show 4 ≤ sizeLine; decide) (.cons ⟨_, rfl⟩ (.cons ⟨_, rfl⟩ (.cons ⟨_, rfl⟩ (.cons ⟨_, rfl⟩ .nil)))) (.cons (RD.int _) (.cons (RD.int _) (.cons (RD.int _) (.cons (RD.int _) .nil))))) (.cons (cstT (vs := [V.int (0), V.int (-1), V.int (-1), V.int (0)]) tt29 (by show 4 ≤ sizeLine; decide) (.cons ⟨_, rfl⟩ (.cons ⟨_, rfl⟩ (.cons ⟨_, rfl⟩ (.cons ⟨_, rfl⟩ .nil)))) (.cons (RD.int _) (.cons (RD.int _) (.cons (RD.int _) (.cons (RD.int _) .nil))))) (.cons (cstT (vs := [V.int (1), V.int (0), V.int (0), V.int (-1)]) tt34 (by show 4 ≤ sizeLine; decide) (.cons ⟨_, rfl⟩ (.cons ⟨_, rfl⟩ (.cons ⟨_, rfl⟩ (.cons ⟨_, rfl⟩ .nil)))) (.cons (RD.int _) (.cons (RD.int _) (.cons (RD.int _) (.cons (RD.int _) .nil))))) (.cons (cstT (vs := [V.int (0), V.int (1), V.int (1), V.int (0)]) tt39 (by show 4 ≤ sizeLine; decide) (.cons ⟨_, rfl⟩ (.cons ⟨_, rfl⟩ (.cons ⟨_, rfl⟩ (.cons ⟨_, rfl⟩ .nil)))) (.cons (RD.int _) (.cons (RD.int _) (.cons (RD.int _) (.cons (RD.int _) .nil))))) .nil))))))))⟩ ?_
    refine And.intro ⟨V.int (4), _, PySem.W.mg_of X Gn ga2, ⟨_, rfl⟩, fun m H => RD.int _⟩ ?_
    exact trivial
  · cases b
    · exact PySem.W.mg_none_of X Gn z_len
    · exact PySem.W.mg_none_of X Gn z_isinstance
    · exact PySem.W.mg_none_of X Gn z_int
    · exact PySem.W.mg_none_of X Gn z_list
    · exact PySem.W.mg_none_of X Gn z_max
    · exact PySem.W.mg_none_of X Gn z_min
    · exact PySem.W.mg_none_of X Gn z_sorted
  · cases t
    · exact PySem.W.mg_none_of X Gn z_int
    · exact PySem.W.mg_none_of X Gn z_bool
    · exact PySem.W.mg_none_of X Gn z_str
    · exact PySem.W.mg_none_of X Gn z_tuple
    · exact PySem.W.mg_none_of X Gn z_list
  · refine AllP.get0 (P := fun c x => mg x = some (.ref (([] : List Addr).getD c 0)) ∧ ExcF K (([] : List Addr).getD c 0)) (l := G.excs) ?_ hx
    exact trivial
  · simp only [G, List.mem_cons, List.not_mem_nil, or_false] at hq
  · exact ⟨_, fun s v => .of_eq rfl, _, _, _, _, rfl, F19, sc19, rfl, rfl, ck19⟩
end Pk19

namespace Pk19
open PySem L2 Ng
def W : Nat := 2000
theorem turned_ok (n : Nat) (t x y : Int) (h : Hh) (h0 : 0 ≤ t) (h1 : t < 8) : callD G T W (n + 1) 0 [.int t, .tup [.int x, .int y]] h = .ok (.tup [.int (tx t x y), .int (ty t x y)]) h := by
  obtain ⟨c1, c2, c3, c4⟩ := cf_b h0 h1
  have ea := cf_at h0 h1
  rw [call_eq (c := ⟨2, 8, b0⟩) rfl rfl, tx_cf, ty_cf]
  generalize (cf t).1 = a1, (cf t).2.1 = a2, (cf t).2.2.1 = a3, (cf t).2.2.2 = a4 at *
  generalize callD G T W n = cl
  show (xss G cl W b0 [some (.int t), some (.tup [.int x, .int y]), none, none, none, none, none, none] h).bind endD = _
  have e1 : ev G cl (.ix (.gc 1) (.var 0)) [some (.int t), some (.tup [.int x, .int y]), some (.int x), some (.int y), none, none, none, none] h = .ok (.tup [.int a1, .int a2, .int a3, .int a4]) h := by
    rw [evIx, evGc, gc1]
    simp only [bindOk]
    rw [evV (x := .int t) rfl, bindOk, Ng.iTup, ea]
  rw [b0, xssNx (r' := [some (.int t), some (.tup [.int x, .int y]), some (.int x), some (.int y), none, none, none, none]) (h' := h) (by rw [xsAsg, evV (x := .tup [.int x, .int y]) rfl]; rfl),
    xssNx (r' := [some (.int t), some (.tup [.int x, .int y]), some (.int x), some (.int y), some (.int a1), some (.int a2), some (.int a3), some (.int a4)]) (h' := h) (by rw [xsAsg, e1]; rfl),
    xssRt (d := .tup [.int (a1 * x + a2 * y), .int (a3 * x + a4 * y)]) (h' := h) (by
      rw [xsRet, evTup, evsCons, evBin2 (evBin2 (x := .int a1) (y := .int x) (evV rfl) (evV rfl) (bMul2 h c1.1 c1.2)) (evBin2 (x := .int a2) (y := .int y) (evV rfl) (evV rfl) (bMul2 h c2.1 c2.2)) (bAdd ..), bindOk,
        evsCons, evBin2 (evBin2 (x := .int a3) (y := .int x) (evV rfl) (evV rfl) (bMul2 h c3.1 c3.2)) (evBin2 (x := .int a4) (y := .int y) (evV rfl) (evV rfl) (bMul2 h c4.1 c4.2)) (bAdd ..), bindOk, evsNil]
      rfl)]
  rfl

theorem tbeh_ok (n : Nat) (a b : Int) (h : Hh) : callD G T W (n + 1) 1 [.int a, .int b] h = .ok (.int (tbh a b)) h := by
  have q4 : ∀ x : Int, binD .mod (.int x) (.int 4) h = .ok (.int (x % 4)) h := fun x => bMod h (by omega)
  rw [call_eq (c := ⟨2, 4, b1⟩) rfl rfl]
  by_cases ha : 4 ≤ a <;> by_cases hb : 4 ≤ b <;> simp [b1, gc0, gc1, gc2, tbh, q4, ha, hb]

theorem moved_ok (n : Nat) (t p q x y : Int) (h : Hh) (h0 : 0 ≤ t) (h1 : t < 8) : callD G T W (n + 2) 2 [.tup [.int t, .int p, .int q], .tup [.int x, .int y]] h = .ok (.tup [.int (tx t x y + p), .int (ty t x y + q)]) h := by
  rw [call_eq (c := ⟨2, 7, b2⟩) rfl rfl]
  simp [b2, turned_ok n t x y h h0 h1]

theorem leading_ok (n : Nat) (t x y a b : Int) (h : Hh) (h0 : 0 ≤ t) (h1 : t < 8) : callD G T W (n + 2) 3 [.int t, .tup [.int x, .int y], .tup [.int a, .int b]] h = .ok (.tup [.int t, .int (a - tx t x y), .int (b - ty t x y)]) h := by
  rw [call_eq (c := ⟨3, 7, b3⟩) rfl rfl]
  simp [b3, turned_ok n t x y h h0 h1]

theorem behind_ok (n : Nat) (t p q u r s : Int) (h : Hh) (h0 : 0 ≤ t) (h1 : t < 8) (h2 : 0 ≤ u) (h3 : u < 8) : callD G T W (n + 3) 4 [.tup [.int t, .int p, .int q], .tup [.int u, .int r, .int s]] h
    = .ok (.tup [.int (tbh t u), .int (tx u (tx t 0 0 + p) (ty t 0 0 + q) + r - tx (tbh t u) 0 0), .int (ty u (tx t 0 0 + p) (ty t 0 0 + q) + s - ty (tbh t u) 0 0)]) h := by
  rw [call_eq (c := ⟨2, 3, b4⟩) rfl rfl]
  obtain ⟨b0, b1⟩ := tbh_in t u
  have e1 : callD G T W (n + 2) _ _ h = _ := tbeh_ok (n + 1) t u h
  have e2 := moved_ok n t p q 0 0 h h0 h1
  have e3 := moved_ok n u r s (tx t 0 0 + p) (ty t 0 0 + q) h h2 h3
  have e4 := leading_ok n (tbh t u) 0 0 (tx u (tx t 0 0 + p) (ty t 0 0 + q) + r) (ty u (tx t 0 0 + p) (ty t 0 0 + q) + s) h b0 b1
  simp [b4, gc0, gc1, gc2, atI, ixN, e1, e2, e3, e4]

theorem draws (n : Nat) (ns : List Int) (at' : Int) (M : Nat) (hM : M ≤ 1000) (h : Hh) (h0 : 0 ≤ at') (h1 : at' < 100000) (hs : lstAt h 0 = some (ns.map D.int)) : ∃ row : List Int, row.length = M ∧ InR row ∧ callD G T W (n + 1) 10 [.ref 0, .int at', .int M] h = .ok (.ref h.length) (h ++ [.lst (row.map D.int)]) := by
  obtain ⟨row, r1, r2, e⟩ := draws_ok G (callD G T W n) W h 0 ns at' M hM h0 h1 hs (by decide)
  refine ⟨row, r1, r2, ?_⟩
  rw [call_eq (c := ⟨3, 7, b10⟩) rfl rfl]
  have e' : xss G (callD G T W n) W b10 _ h = _ := e
  show (xss G (callD G T W n) W b10 [some (.ref 0), some (.int at'), some (.int M), none, none, none, none] h).bind endD = _
  rw [e']
  rfl

theorem far_ok (n : Nat) (a b : Int) (h : Hh) (hb : 0 ≤ b) (hb2 : b < 1013) : ∃ v : Int, callD G T W (n + 1) 11 [.int a, .int b] h = .ok (.int v) h := by
  have q1 : ∀ x : Int, binD .mod (.int x) (.int 5) h = .ok (.int (x % 5)) h := fun x => bMod h (by omega)
  have q2 : ∀ x : Int, binD .mod (.int x) (.int 13) h = .ok (.int (x % 13)) h := fun x => bMod h (by omega)
  have q3 : ∀ x : Int, binD .fdiv (.int x) (.int 5) h = .ok (.int (x / 5)) h := fun x => bDiv h (by omega) (by omega)
  have q4 : ∀ x : Int, binD .mul (.int x) (.int 1013) h = .ok (.int (x * 1013)) h := fun x => bMulR h (by omega) (by omega)
  have q5 : ∀ x : Int, binD .mul (.int (b - 506)) (.int x) h = .ok (.int ((b - 506) * x)) h := fun x => bMulL h (by omega) (by omega)
  rw [call_eq (c := ⟨2, 2, b11⟩) rfl rfl]
  by_cases h1 : a % 5 < 3
  · exact ⟨a / 5 % 13 - 6, by simp [b11, q1, q2, q3, h1]⟩
  · by_cases h2 : a % 5 = 3
    · exact ⟨a * 1013 + b - 513000, by simp [b11, q1, q2, q3, q4, h1, h2]⟩
    · exact ⟨(b - 506) * 1000000000000000000000000000 + a, by simp [b11, q1, q2, q3, q4, q5, h1, h2]⟩

theorem iLast (h : Hh) (l : List D) (i : Int) : ixD (.ref h.length) (.int i) (h ++ [.lst l]) = (match atI l i with | some d => .ok d (h ++ [.lst l]) | none => .bad) := iRef _ _ (lstAt_last _ _)

theorem lturned_ok (n : Nat) (t x y : Int) (h : Hh) (h0 : 0 ≤ t) (h1 : t < 8) : ∃ g, callD G T W (n + 1) 12 [.int t, .int x, .int y] h = .ok (.tup [.int (tx t x y), .int (ty t x y)]) (h ++ g) := by
  rw [call_eq (c := ⟨3, 3, b12⟩) rfl rfl]
  generalize callD G T W n = cl
  refine ⟨[.lst [.tup [.int x, .int y], .tup [.int (-y), .int x], .tup [.int (-x), .int (-y)], .tup [.int y, .int (-x)], .tup [.int (-x), .int y], .tup [.int (-y), .int (-x)], .tup [.int x, .int (-y)], .tup [.int y, .int x]]], ?_⟩
  have ea := tx_at h0 h1 x y
  generalize tx t x y = X, ty t x y = Y at ea ⊢
  show (xss G cl W b12 [some (.int t), some (.int x), some (.int y)] h).bind endD = _
  rw [b12, xssRt (d := .tup [.int X, .int Y]) (by
    rw [xsRet, evIx, evLst]
    simp only [evsCons, evsNil, evTup, evVar, evNeg, List.getElem?_cons_succ, ge0, bindOk, List.length_cons, List.length_nil, Nat.reduceAdd, Nat.reduceLeDiff, if_true]
    rw [iLast, ea]
    rfl)]
  rfl

theorem lmoved_ok (n : Nat) (t p q x y : Int) (h : Hh) (h0 : 0 ≤ t) (h1 : t < 8) : ∃ g, callD G T W (n + 2) 13 [.tup [.int t, .int p, .int q], .tup [.int x, .int y]] h = .ok (.tup [.int (tx t x y + p), .int (ty t x y + q)]) (h ++ g) := by
  obtain ⟨g, e⟩ := lturned_ok n t x y h h0 h1
  refine ⟨g, ?_⟩
  rw [call_eq (c := ⟨2, 4, b13⟩) rfl rfl]
  simp [b13, atI, ixN, e]

theorem lmotion_ok (n k : Nat) (l : List Int) (at' : Nat) (a0 a1 a2 a3 a4 : Int) (h : Hh) (hl : lstAt h k = some (l.map D.int)) (e0 : l[at']? = some a0) (e1 : l[at' + 1]? = some a1) (e2 : l[at' + 2]? = some a2) (e3 : l[at' + 3]? = some a3) (e4 : l[at' + 4]? = some a4) (hr : InR l) :
    ∃ t p q : Int, 0 ≤ t ∧ t < 8 ∧ callD G T W (n + 2) 14 [.ref k, .int at'] h = .ok (.tup [.int t, .int p, .int q]) h := by
  have mem : ∀ (j : Nat) v, l[j]? = some v → 0 ≤ v ∧ v < 1013 := fun j v e => hr v (List.mem_of_getElem? e)
  obtain ⟨p, ep⟩ := far_ok n a1 a2 h (mem _ _ e2).1 (mem _ _ e2).2
  obtain ⟨q, eq⟩ := far_ok n a3 a4 h (mem _ _ e4).1 (mem _ _ e4).2
  have g : ∀ (j : Nat) v, l[j]? = some v → atI (l.map D.int) (j : Int) = some (.int v) := fun j v e => atI_nat (by rw [List.getElem?_map, e]; rfl)
  have g0 := g _ _ e0
  have g1 := g _ _ e1
  have g2 := g _ _ e2
  have g3 := g _ _ e3
  have g4 := g _ _ e4
  simp only [Int.natCast_add, Int.cast_ofNat_Int] at g1 g2 g3 g4
  have q8 : ∀ x : Int, binD .mod (.int x) (.int 8) h = .ok (.int (x % 8)) h := fun x => bMod h (by omega)
  refine ⟨a0 % 8, p, q, by omega, by omega, ?_⟩
  have hix : ∀ j : Int, ixD (.ref k) (.int j) h = (match atI (l.map D.int) j with | some d => .ok d h | none => .bad) := fun j => iRef h j hl
  rw [call_eq (c := ⟨2, 2, b14⟩) rfl rfl]
  simp [b14, hix, g0, g1, g2, g3, g4, ep, eq, q8]

abbrev sameL : Ss := (.cons (.iff (.not (.call 15 (.cons (.ix (.var 0) (.var 2)) (.cons (.ix (.var 1) (.var 2)) .nil)))) (.cons (.ret (.bl false)) .nil) .nil) .nil)
theorem same_seq {cl : Cl} (x y : D) (l : List D) (h : Hh) (hl : l.length ≤ 1000) (ix : ∀ k : Nat, ∀ d, l[k]? = some d → ixD x (.int k) h = .ok d h ∧ ixD y (.int k) h = .ok d h) (hs : ∀ d ∈ l, cl 15 [d, d] h = .ok (.bl true) h)
    (ny : bltD .len [y] h = .ok (.int l.length) h) :
    ∃ r', xs G cl W (.forr (.nm 2) (.r1 (.blt .len (.cons (.var 1) .nil))) sameL) [some x, some y, none] h = .ok (.nx r') h := by
  obtain ⟨r', el, _⟩ := forS_id (t := .nm 2) (body := xss G cl W sameL) (fun r => ∃ d2, r = [some x, some y, d2]) h (rngD 0 l.length)
    (by
      rintro d hd r ⟨d2, rfl⟩
      obtain ⟨j, hj, rfl⟩ := rngD_mem hd
      have ej : l[j]? = some l[j] := List.getElem?_eq_getElem hj
      obtain ⟨i1, i2⟩ := ix j _ ej
      have es := hs l[j] (List.getElem_mem hj)
      exact ⟨_, _, rfl, by simp [sameL, i1, i2, es]; rfl, _, rfl⟩)
    [some x, some y, none] ⟨none, rfl⟩
  exact ⟨r', xsFor_r1 (j := l.length) (h1 := h) (by simp [ny]) (okR_nat (by omega)) el⟩
theorem same_flat (d : D) (hd : pd 0 d = true) (n : Nat) (h : Hh) : callD G T W (n + 1) 15 [d, d] h = .ok (.bl true) h := by
  rw [call_eq (c := ⟨2, 3, b15⟩) rfl rfl]
  generalize callD G T W n = cl
  have e1 : ∀ d : D, pd 0 d = true → ev G cl (.blt .isinst (.cons (.var 1) (.cons (.tup (.cons (.ty .tuple) (.cons (.ty .list) .nil))) .nil))) [some d, some d, none] h = .ok (.bl false) h := fun d hd => by
    simp only [evBlt, evsCons, evsNil, evVar, evTup, evTy, List.getElem?_cons_succ, ge0, bindOk, List.length_cons, List.length_nil, Nat.reduceAdd, Nat.reduceLeDiff, if_true, bIs]
    cases d <;> first | (cases hd; done) | rfl
  have eT : ∀ (d : D) (i : Nat) (t : Ty) (b : Bool), ([some d, some d, none] : Ev)[i]? = some (some d) → isinL d (.ty t.nm) h = .ok (.bl b) h → ev G cl (.blt .isinst (.cons (.var i) (.cons (.ty t) .nil))) [some d, some d, none] h = .ok (.bl b) h := fun d i t b hi e => by
    simp only [evBlt, evsCons, evsNil, evV hi, evTy, bindOk, bIs, e]
  have eN : ∀ (d : D) (i : Nat), ([some d, some d, none] : Ev)[i]? = some (some d) → ev G cl (.cmp .is (.var i) .non) [some d, some d, none] h = .ok (.bl (isNon d)) h := fun d i hi => evCmp2 (evV hi) (evNon ..) (cIsN ..)
  have eE : ∀ (d : D), cmpD .eq d d h = .ok (.bl true) h → ev G cl (.cmp .eq (.var 0) (.var 1)) [some d, some d, none] h = .ok (.bl true) h := fun d e => evCmp2 (evV rfl) (evV rfl) e
  have eA : ∀ (a b : E) (r : Ev), ev G cl a r h = .ok (.bl true) h → ev G cl b r h = .ok (.bl true) h → ev G cl (.and a b) r h = .ok (.bl true) h := fun a b r ea eb => by
    rw [evAnd, ea, bindOk, tBl]; exact eb
  have eOf : ∀ (a b : E) (r : Ev), ev G cl a r h = .ok (.bl false) h → ev G cl b r h = .ok (.bl false) h → ev G cl (.or a b) r h = .ok (.bl false) h := fun a b r ea eb => by
    rw [evOr, ea, bindOk, tBl]; exact eb
  have rt : ∀ (a : E) (Z : Ss) (r : Ev), ev G cl a r h = .ok (.bl true) h → xss G cl W (.cons (.ret a) Z) r h = .ok (.rt (.bl true)) h := fun a Z r e => xssRt (by rw [xsRet, e]; rfl)
  show (xss G cl W b15 [some d, some d, none] h).bind endD = _
  have s1 : ∀ (A Z : Ss) (c : E) (r : Ev), ev G cl c r h = .ok (.bl false) h → xss G cl W (.cons (.iff c A .nil) Z) r h = xss G cl W Z r h := fun A Z c r e => xssNx (by rw [xsIffF e, xssNil])
  have s2 : ∀ (A Z : Ss) (c : E) (r : Ev), ev G cl c r h = .ok (.bl true) h → xss G cl W A r h = .ok (.rt (.bl true)) h → xss G cl W (.cons (.iff c A .nil) Z) r h = .ok (.rt (.bl true)) h := fun A Z c r e ea => xssRt (by rw [xsIffT e, ea])
  cases d with
  | non => rw [b15, s1 _ _ _ _ (e1 _ hd), s2 _ _ _ _ (eN _ 1 rfl) (rt _ _ _ (eN _ 0 rfl))]; rfl
  | bl b => rw [b15, s1 _ _ _ _ (e1 _ hd), s1 _ _ _ _ (eN _ 1 rfl), s2 _ _ _ _ (by rw [evOr, eT _ 1 .bool true rfl rfl, bindOk, tBl]) (rt _ _ _ (eA _ _ _ (eT _ 1 .bool true rfl rfl) (eA _ _ _ (eT _ 0 .bool true rfl rfl) (eE _ (by simp)))))]; rfl
  | int z => rw [b15, s1 _ _ _ _ (e1 _ hd), s1 _ _ _ _ (eN _ 1 rfl), s1 _ _ _ _ (eOf _ _ _ (eT _ 1 .bool false rfl rfl) (eT _ 0 .bool false rfl rfl)), s2 _ _ _ _ (eT _ 1 .int true rfl rfl) (rt _ _ _ (eA _ _ _ (eT _ 0 .int true rfl rfl) (eE _ (by simp))))]; rfl
  | str z => rw [b15, s1 _ _ _ _ (e1 _ hd), s1 _ _ _ _ (eN _ 1 rfl), s1 _ _ _ _ (eOf _ _ _ (eT _ 1 .bool false rfl rfl) (eT _ 0 .bool false rfl rfl)), s1 _ _ _ _ (eT _ 1 .int false rfl rfl), rt _ _ _ (eA _ _ _ (eT _ 0 .str true rfl rfl) (eE _ (by simp)))]; rfl
  | tup l => cases hd
  | ref n => cases hd
  | ty t => cases hd
theorem same_refl : ∀ (k : Nat) (d : D), pd k d = true → ∀ (n : Nat) (h : Hh), callD G T W (k + n + 1) 15 [d, d] h = .ok (.bl true) h := by
  intro k
  induction k with
  | zero =>
    intro d hd n h
    rw [Nat.zero_add]
    exact same_flat d hd n h
  | succ k ih =>
    intro d hd n h
    by_cases hf : pd 0 d = true
    · exact same_flat d hf _ h
    cases d <;> first | exact absurd rfl hf | (cases hd; done) | skip
    rename_i l
    simp only [pd, Bool.and_eq_true, decide_eq_true_eq] at hd
    obtain ⟨h1, h2⟩ := hd
    obtain ⟨r', ef⟩ := same_seq (cl := callD G T W (k + 1 + n)) (.tup l) (.tup l) l h h1 (fun j d ej => by
        have ea : atI l (j : Int) = some d := atI_nat ej
        exact ⟨by rw [Ng.iTup, ea], by rw [Ng.iTup, ea]⟩) (fun d hd => by
          have := ih d (by rw [List.all_eq_true] at h2; exact h2 _ hd) n h
          rwa [show k + n + 1 = k + 1 + n by omega] at this) (by simp)
    show (xss G (callD G T W (k + 1 + n)) W b15 [some (.tup l), some (.tup l), none] h).bind endD = _
    rw [b15, xssRt (d := .bl true) (h' := h) (by
      rw [xsIff, show ev G (callD G T W (k + 1 + n)) (.blt .isinst (.cons (.var 1) (.cons (.tup (.cons (.ty .tuple) (.cons (.ty .list) .nil))) .nil))) [some (.tup l), some (.tup l), none] h = .ok (.bl true) h from by simp, nxOk, bindOk]
      show xss G _ W _ _ h = _
      rw [xssNx (r' := [some (.tup l), some (.tup l), none]) (h' := h) (by simp), xssNx (r' := [some (.tup l), some (.tup l), none]) (h' := h) (by simp), xssNx ef]
      simp)]
    rfl
theorem same_lst (k : Nat) (a b : Nat) (l : List D) (n : Nat) (h : Hh) (ha : lstAt h a = some l) (hb : lstAt h b = some l) (h1 : l.length ≤ 1000) (h2 : l.all (pd k) = true) : callD G T W (k + 1 + n + 1) 15 [.ref a, .ref b] h = .ok (.bl true) h := by
  rw [call_eq (c := ⟨2, 3, b15⟩) rfl rfl]
  obtain ⟨r', ef⟩ := same_seq (cl := callD G T W (k + 1 + n)) (.ref a) (.ref b) l h h1 (fun j d ej => by
      have ea : atI l (j : Int) = some d := atI_nat ej
      exact ⟨by rw [iRef h _ ha, ea], by rw [iRef h _ hb, ea]⟩) (fun d hd => by
        have := same_refl k d (by rw [List.all_eq_true] at h2; exact h2 _ hd) n h
        rwa [show k + n + 1 = k + 1 + n by omega] at this) (by rw [bLen, sRef, hb])
  have t1 := isLstTL h hb
  have t2 := isLstT h ha
  have t3 := isLstT h hb
  have t4 := isLstL h ha
  have t5 := isLstL h hb
  show (xss G (callD G T W (k + 1 + n)) W b15 [some (.ref a), some (.ref b), none] h).bind endD = _
  rw [b15, xssRt (d := .bl true) (h' := h) (by
    rw [xsIff, show ev G (callD G T W (k + 1 + n)) (.blt .isinst (.cons (.var 1) (.cons (.tup (.cons (.ty .tuple) (.cons (.ty .list) .nil))) .nil))) [some (.ref a), some (.ref b), none] h = .ok (.bl true) h from by simp [t1], nxOk, bindOk]
    show xss G _ W _ _ h = _
    rw [xssNx (r' := [some (.ref a), some (.ref b), none]) (h' := h) (by simp [t2, t3, t4, t5]), xssNx (r' := [some (.ref a), some (.ref b), none]) (h' := h) (by simp [ha, hb]), xssNx ef]
    simp)]
  rfl

theorem same_seq2 {cl : Cl} (x y : D) (lx ly : List D) (h : Hh) (hll : lx.length = ly.length) (hl : ly.length ≤ 1000) (ix : ∀ (k : Nat) d, lx[k]? = some d → ixD x (.int k) h = .ok d h) (iy : ∀ (k : Nat) d, ly[k]? = some d → ixD y (.int k) h = .ok d h) (hs : ∀ (k : Nat) a b, lx[k]? = some a → ly[k]? = some b → cl 15 [a, b] h = .ok (.bl true) h)
    (ny : bltD .len [y] h = .ok (.int ly.length) h) :
    ∃ r', xs G cl W (.forr (.nm 2) (.r1 (.blt .len (.cons (.var 1) .nil))) sameL) [some x, some y, none] h = .ok (.nx r') h := by
  obtain ⟨r', el, _⟩ := forS_id (t := .nm 2) (body := xss G cl W sameL) (fun r => ∃ d2, r = [some x, some y, d2]) h (rngD 0 ly.length)
    (by
      rintro d hd r ⟨d2, rfl⟩
      obtain ⟨j, hj, rfl⟩ := rngD_mem hd
      have ex : lx[j]? = some (lx[j]'(by omega)) := List.getElem?_eq_getElem (by omega)
      have ey : ly[j]? = some ly[j] := List.getElem?_eq_getElem hj
      have i1 := ix j _ ex
      have i2 := iy j _ ey
      have es := hs j _ _ ex ey
      exact ⟨_, _, rfl, by simp [sameL, i1, i2, es]; rfl, _, rfl⟩)
    [some x, some y, none] ⟨none, rfl⟩
  exact ⟨r', xsFor_r1 (j := ly.length) (h1 := h) (by simp [ny]) (okR_nat (by omega)) el⟩
theorem same_lst2 (n : Nat) (a b : Nat) (la lb : List D) (h : Hh) (ha : lstAt h a = some la) (hb : lstAt h b = some lb) (hll : la.length = lb.length) (h1 : lb.length ≤ 1000) (hs : ∀ (k : Nat) x y, la[k]? = some x → lb[k]? = some y → callD G T W n 15 [x, y] h = .ok (.bl true) h) : callD G T W (n + 1) 15 [.ref a, .ref b] h = .ok (.bl true) h := by
  rw [call_eq (c := ⟨2, 3, b15⟩) rfl rfl]
  obtain ⟨r', ef⟩ := same_seq2 (cl := callD G T W n) (.ref a) (.ref b) la lb h hll h1 (fun j d ej => by
      have ea : atI la (j : Int) = some d := atI_nat ej
      rw [iRef h _ ha, ea]) (fun j d ej => by
      have ea : atI lb (j : Int) = some d := atI_nat ej
      rw [iRef h _ hb, ea]) hs (by rw [bLen, sRef, hb])
  have t1 := isLstTL h hb
  have t2 := isLstT h ha
  have t3 := isLstT h hb
  have t4 := isLstL h ha
  have t5 := isLstL h hb
  generalize callD G T W n = cl at ef
  show (xss G cl W b15 [some (.ref a), some (.ref b), none] h).bind endD = _
  rw [b15, xssRt (d := .bl true) (h' := h) (by
    rw [xsIff, show ev G cl (.blt .isinst (.cons (.var 1) (.cons (.tup (.cons (.ty .tuple) (.cons (.ty .list) .nil))) .nil))) [some (.ref a), some (.ref b), none] h = .ok (.bl true) h from by simp [t1], nxOk, bindOk]
    show xss G _ W _ _ h = _
    rw [xssNx (r' := [some (.ref a), some (.ref b), none]) (h' := h) (by simp [t2, t3, t4, t5]), xssNx (r' := [some (.ref a), some (.ref b), none]) (h' := h) (by simp [ha, hb, hll]), xssNx ef]
    simp)]
  rfl


theorem behind' (n : Nat) : Beh (callD G T W (n + 3)) 4 := fun a b h ha hb => by
  obtain ⟨t, p, q⟩ := a
  obtain ⟨u, r, s⟩ := b
  have e := behind_ok n t p q u r s h ha.1 ha.2 hb.1 hb.2
  have z1 := t00 t
  have z2 := t00 (tbh t u)
  rw [z1.1, z1.2, z2.1, z2.2] at e
  simpa [mo, bh] using e
theorem mvd (n : Nat) : Mvd (callD G T W (n + 2)) 2 := fun m x y h hm => moved_ok n m.1 m.2.1 m.2.2 x y h hm.1 hm.2
theorem trn (n : Nat) : Trn (callD G T W (n + 1)) 0 := fun t x y h h0 h1 => turned_ok n t x y h h0 h1
theorem ldg (n : Nat) : Ldg (callD G T W (n + 2)) 3 := fun t x y a b h h0 h1 => leading_ok n t x y a b h h0 h1
theorem W1 : 100 ≤ W := by decide
theorem ledP (n : Nat) : Led (callD G T W (n + 3)) 5 := fun a m l h hm ha u hl => by
  rw [call_eq (c := ⟨2, 9, b5⟩) rfl rfl]
  exact led_ok W1 (mvd n) a m l h hm ha u hl
theorem cor (n : Nat) : Cor (callD G T W (n + 1)) 6 := fun a ps h ha h0 hl => by
  rw [call_eq (c := ⟨1, 1, b6⟩) rfl rfl]
  exact cr_ok a ps h ha h0 hl
theorem cng (n : Nat) : Cng (callD G T W (n + 4)) 7 := fun a t gx gy l h ha hn hl h0 h1 => by
  rw [call_eq (c := ⟨3, 4, b7⟩) rfl rfl]
  exact cg_ok (trn (n + 2)) (behind' n) (ldg (n + 1)) (cor (n + 2)) a t gx gy l h ha hn hl h0 h1
theorem cgs (n : Nat) : Cgs (callD G T W (n + 5)) 8 := fun a gx gy l h ha hn hl => by
  rw [call_eq (c := ⟨2, 2, b8⟩) rfl rfl]
  exact cs_ok (cng n) (fun r h => by simp only [evBlt, evsCons, evsNil, evGc, gc1, bindOk, bLen, sTup]; rfl) a gx gy l h ha hn hl
theorem mtP (n : Nat) : Mth (callD G T W (n + 6)) 9 := fun a b one other h ha hb h1 h2 u1 u2 l1 l2 hs => by
  rw [call_eq (c := ⟨2, 3, b9⟩) rfl rfl]
  exact mt_ok (cor (n + 4)) (cgs n) (ledP (n + 2)) a b one other h ha hb h1 h2 u1 u2 l1 l2 hs

theorem lmv (n : Nat) : Lmv (callD G T W (n + 2)) 13 := fun m x y h hm => lmoved_ok n m.1 m.2.1 m.2.2 x y h hm.1 hm.2
theorem ltn (n : Nat) : Ltn (callD G T W (n + 1)) 12 := fun t x y h h0 h1 => lturned_ok n t x y h h0 h1
theorem lled (n : Nat) : Led (callD G T W (n + 3)) 17 := fun a m l h hm ha u hl => by
  rw [call_eq (c := ⟨2, 2, b17⟩) rfl rfl]
  exact rl_ok (lmv n) a m l h hm ha u hl
theorem drs (n : Nat) (ns : List Int) : Drs (callD G T W (n + 1)) 10 ns := fun at' M h hM h0 h1 hs => draws n ns at' M hM h h0 h1 hs
theorem say (n : Nat) : Say (callD G T W (n + 1)) 16 := fun v h hv => by
  rw [call_eq (c := ⟨1, 1, b16⟩) rfl rfl]
  exact sy_ok v hv h
theorem rof (n : Nat) (ns : List Int) : Rof2 (callD G T W (n + 2)) 18 ns := fun h hs => by
  rw [call_eq (c := ⟨1, 7, b18⟩) rfl rfl]
  exact ro_ok W1 (drs n ns) (say n) (ltn n) h hs
theorem mtn (n : Nat) : Mtn8 (callD G T W (n + 2)) 14 := fun k row h hk hl hr => by
  match row, hl with
  | a0 :: a1 :: a2 :: a3 :: a4 :: rest, _ =>
    obtain ⟨t, p, q, h0, h1, e⟩ := lmotion_ok n k (a0 :: a1 :: a2 :: a3 :: a4 :: rest) 0 a0 a1 a2 a3 a4 h hk rfl rfl rfl rfl rfl hr
    exact ⟨(t, p, q), ⟨h0, h1⟩, e⟩
theorem pdR (r : Rw) : pd 1 (rwD r) = true := rfl

def Smr2 (cl : Cl) (f : Nat) : Prop := ∀ (a b : Nat) (l : List Rw) (h : Hh), lstAt h a = some (l.map rwD) → lstAt h b = some (l.map rwD) → l.length ≤ 1000 → cl f [.ref a, .ref b] h = .ok (.bl true) h
theorem smr (n : Nat) : Smr2 (callD G T W (n + 3)) 15 := fun a b l h ha hb hl => by
  rw [show n + 3 = 1 + 1 + n + 1 by omega]
  exact same_lst 1 a b (l.map rwD) n h ha hb (by simpa using hl) (by
    rw [List.all_eq_true]
    intro d hd
    obtain ⟨r, _, rfl⟩ := List.mem_map.mp hd
    exact pdR r)

theorem pdM (m : M3) : pd 1 (mo m) = true := rfl
theorem smm (n : Nat) : Smm (callD G T W (n + 3)) 15 := fun a b l h ha hb hl => by
  rw [show n + 3 = 1 + 1 + n + 1 by omega]
  exact same_lst 1 a b (l.map mo) n h ha hb (by simpa using hl) (by
    rw [List.all_eq_true]
    intro d hd
    obtain ⟨r, _, rfl⟩ := List.mem_map.mp hd
    exact pdM r)
theorem smh (n : Nat) : Smh (callD G T W (n + 4)) 15 := fun p q a b c d l m h hp hq ha hc hb hd hl hm => by
  refine same_lst2 (n + 3) p q [.ref a, .ref b] [.ref c, .ref d] h hp hq rfl (by simp) fun k x y ex ey => ?_
  match k, ex, ey with
  | 0, ex, ey => cases ex; cases ey; exact smr n a c l h ha hc hl
  | 1, ex, ey => cases ex; cases ey; exact smr n b d m h hb hd hm
  | k + 2, ex, ey => simp at ex

theorem run (ns : List Int) (hn : ns.length ≤ 63) : ∃ h', callD G T W (99 + 1) 19 [.ref 0] [.ro (ns.map D.int)] = .ok (.bl true) h' := by
  rw [call_eq (c := ⟨1, 15, b19⟩) rfl rfl]
  exact lm_ok W1 (rof 97 ns) (drs 98 ns) (lled 96) (ltn 98) (mtP 93) (smm 96) (smh 95) (mtn 97) [.ro (ns.map D.int)] rfl

end Pk19
end
open PySem PySem.W PyProof.Rows
set_option maxRecDepth 100000 in
set_option maxHeartbeats 0 in
theorem PySem.Challenge.cw_nightglass_k19_whole_matches_holds : PySem.Challenge.rw_nightglass_k19_whole_matches.Holds := by
  w_on; o_law; k_head; (case hw => w_witness2)
  k_fill
  refine Ng.law_of (G := Pk19.G) (T := Pk19.T) (W := Pk19.W) (l := PySem.Challenge.rw_nightglass_k19_whole_matches) (n := 63) (k := 99) (lw := 19) (x := "_law_script") Pk19.run rfl (by decide) rfl ⟨rfl, by decide, by decide⟩ (fun w h Y => PySem.W.kIn_of Y) ?F
  case F =>
    intro w mg fa h KX Gn hmg
    refine' Pk19.all_mk KX Gn hmg ?fa0 ?fl0 ?fc0 ?fk0 ?fa1 ?fl1 ?fc1 ?fk1 ?fa2 ?fl2 ?fc2 ?fk2 ?fa3 ?fl3 ?fc3 ?fk3 ?fa4 ?fl4 ?fc4 ?fk4 ?fa5 ?fl5 ?fc5 ?fk5 ?fa6 ?fl6 ?fc6 ?fk6 ?fa7 ?fl7 ?fc7 ?fk7 ?fa8 ?fl8 ?fc8 ?fk8 ?fa9 ?fl9 ?fc9 ?fk9 ?fa10 ?fl10 ?fc10 ?fk10 ?fa11 ?fl11 ?fc11 ?fk11 ?fa12 ?fl12 ?fc12 ?fk12 ?fa13 ?fl13 ?fc13 ?fk13 ?fa14 ?fl14 ?fc14 ?fk14 ?fa15 ?fl15 ?fc15 ?fk15 ?fa16 ?fl16 ?fc16 ?fk16 ?fa17 ?fl17 ?fc17 ?fk17 ?fa18 ?fl18 ?fc18 ?fk18 ?fa19 ?fl19 ?fc19 ?fk19 ?ga0 ?tt0 ?ga1 ?tt3 ?tt4 ?tt9 ?tt14 ?tt19 ?tt24 ?tt29 ?tt34 ?tt39 ?ga2 ?z_len ?z_isinstance ?z_int ?z_list ?z_bool ?z_str ?z_tuple ?z_range ?z_max ?z_min ?z_sorted ?z_ValueError
    (case fa0 => k_is)
    (case fl0 => k_is)
    (case fc0 => k_is)
    (case fk0 => k_is)
    (case fa1 => k_is)
    (case fl1 => k_is)
    (case fc1 => k_is)
    (case fk1 => k_is)
    (case fa2 => k_is)
    (case fl2 => k_is)
    (case fc2 => k_is)
    (case fk2 => k_is)
    (case fa3 => k_is)
    (case fl3 => k_is)
    (case fc3 => k_is)
    (case fk3 => k_is)
    (case fa4 => k_is)
    (case fl4 => k_is)
    (case fc4 => k_is)
    (case fk4 => k_is)
    (case fa5 => k_is)
    (case fl5 => k_is)
    (case fc5 => k_is)
    (case fk5 => k_is)
    (case fa6 => k_is)
    (case fl6 => k_is)
    (case fc6 => k_is)
    (case fk6 => k_is)
    (case fa7 => k_is)
    (case fl7 => k_is)
    (case fc7 => k_is)
    (case fk7 => k_is)
    (case fa8 => k_is)
    (case fl8 => k_is)
    (case fc8 => k_is)
    (case fk8 => k_is)
    (case fa9 => k_is)
    (case fl9 => k_is)
    (case fc9 => k_is)
    (case fk9 => k_is)
    (case fa10 => k_is)
    (case fl10 => k_is)
    (case fc10 => k_is)
    (case fk10 => k_is)
    (case fa11 => k_is)
    (case fl11 => k_is)
    (case fc11 => k_is)
    (case fk11 => k_is)
    (case fa12 => k_is)
    (case fl12 => k_is)
    (case fc12 => k_is)
    (case fk12 => k_is)
    (case fa13 => k_is)
    (case fl13 => k_is)
    (case fc13 => k_is)
    (case fk13 => k_is)
    (case fa14 => k_is)
    (case fl14 => k_is)
    (case fc14 => k_is)
    (case fk14 => k_is)
    (case fa15 => k_is)
    (case fl15 => k_is)
    (case fc15 => k_is)
    (case fk15 => k_is)
    (case fa16 => k_is)
    (case fl16 => k_is)
    (case fc16 => k_is)
    (case fk16 => k_is)
    (case fa17 => k_is)
    (case fl17 => k_is)
    (case fc17 => k_is)
    (case fk17 => k_is)
    (case fa18 => k_is)
    (case fl18 => k_is)
    (case fc18 => k_is)
    (case fk18 => k_is)
    (case fa19 => k_is)
    (case fl19 => k_is)
    (case fc19 => k_is)
    (case fk19 => k_is)
    (case ga0 => k_is)
    (case tt0 => k_is)
    (case ga1 => k_is)
    (case tt3 => k_is)
    (case tt4 => k_is)
    (case tt9 => k_is)
    (case tt14 => k_is)
    (case tt19 => k_is)
    (case tt24 => k_is)
    (case tt29 => k_is)
    (case tt34 => k_is)
    (case tt39 => k_is)
    (case ga2 => k_is)
    (case z_len => k_is)
    (case z_isinstance => k_is)
    (case z_int => k_is)
    (case z_list => k_is)
    (case z_bool => k_is)
    (case z_str => k_is)
    (case z_tuple => k_is)
    (case z_range => k_is)
    (case z_max => k_is)
    (case z_min => k_is)
    (case z_sorted => k_is)
    (case z_ValueError => k_is)
