import PyProof.Rows.All
import Wide.All
import OpenK.AllK
import Wide.FinOn
import Lean
import PyProof.EqAt
import PyProof.EqKinds
import PyProof.TupleCall
import PyProof.NeKinds
import KE.RegKIsAll
import KE.KTryMore
import KE.RegKTryMore
import PyProof.StationsW
import PyProof.Rows.CatchOwn
import OpenK.KOwn
import PyProof.NsDelKeeps
import PyProof.Rows.RuleN_isinstance
import KE.KSortTup
import PyProof.Rows.StrJoin2
import PyProof.StrCalls2
import KE.KIntText
import PyProof.DictItems
import KE.KMinBuiltin
import PyProof.WalkInts
import PyProof.Rows.CallKwBuiltin
import KE.KPairComp
import PyProof.Rows.SortWalk
import KE.KListMore
import PyProof.ListRange
import PyProof.RangeFor
import PyProof.CompFree
import PyProof.DictCompW
import PyProof.SliceStr2
import PyProof.StrWalks
import PyProof.StrLaws
import PyProof.FString
import PyProof.CallStr
import PyProof.StrOps2
import PyProof.StrLawsOcc
import PyProof.ZipIter
import PyProof.TupleIter
import KE.KUnpackStar
import PyProof.StrLawsTight
import PyProof.StrLawsChain
import PyProof.FitsInt
import PySem.Challenge.RW_nightglass_k23_deeds_written_and_read
set_option Elab.async false
set_option linter.all false
set_option maxRecDepth 100000
set_option maxHeartbeats 4000000
set_option autoImplicit false
namespace Sh
open PySem PySem.W PyProof.Rows
theorem pair_of {α β γ : Type} {o : Option α} {f : α -> β} {g : α -> γ} {b : β} {c : γ} (h1 : o.map f = some b) (h2 : o.map g = some c) : o.map (fun s => (f s, g s)) = some (b, c) := by
  cases o with
  | none => cases h1
  | some a => cases h1; cases h2; rfl
theorem PySem.W.holds_open {r : OpenRow} {q : Program} {loose : List Str} {Xt : Shared -> Bool} {XP : (Str -> Option Value) -> Heap -> Prop} {α : Type} {Yf : Shared -> α} {Ya : World -> α} {YP : World -> Heap -> Prop} {d : DefRec} {kwd : List (Str × Expr)} {N : Nat}
    (_ : True) (hY : ∀ w s, Yf s = Ya w -> YP w s.heap) (hYk : ∀ w h h', YP w h -> (∀ b o, h.get? b = some o -> h'.get? b = some o) -> YP w h')
    (hX : ∀ s, Xt s = true -> XP (s.heap.nsMap mainGlobals) s.heap) (hXk : ∀ mg h h', XP mg h -> (∀ b o, h.get? b = some o -> h'.get? b = some o) -> XP mg h')
    (hdef : defOf q r.name = some (d, kwd)) (hp : r.prog.theDef r.name = some (d.params, d.body, d.scope)) (hk : kwWritten? d.params.kwonlyargs d.params.kw_defaults = some kwd) (hRf : ∀ s, Xt s = true -> RecFacts r.records s.heap) (hwr : (!r.writes || r.records.isEmpty) = true)
    (k1 : r.wellSaid = true) (ok : (chainsOk q && opensWell r.prog && (frees r.toRowW && r.within.isEmpty)) = true) (hb : r.prog.bare) (hw : r.toRowW.promised)
    (call : LeftO r.prog q loose Xt Yf Ya N /\ WalkO q loose XP YP r.toRowW d kwd fun f vs => PySem.call f vs) : r.Holds :=
  _root_.PySem.W.holds_open call.1 hY hYk hX hXk hdef hp hk hRf hwr k1 ok hb hw call.2
end Sh
section
open PySem PySem.W PyProof.Rows
namespace Sh
theorem sd : PySem.Challenge.rw_nightglass_k23_deeds_written_and_read.wellSaid = true := by kernel_rfl
end Sh
end
namespace L2
open PySem PySem.Spec PyProof.Rows
abbrev Key := Sum Int Str
def keyIs : Key -> Value -> Bool
  | .inl k, v => Value.isInt k v
  | .inr x, v => Value.isStrOf x v
def keyH (w : World) : Key -> Int
  | .inl k => hashInt k
  | .inr x => hashStr w x
theorem keyIs_shape : ∀ {k : Key} {v : Value}, keyIs k v = true -> (∃ i t, k = Sum.inl i /\ v = Value.int i t) \/ (∃ x t, k = Sum.inr x /\ v = Value.str x t)
  | .inl i, v, h => by
    obtain ⟨t, e⟩ := Value.isInt_shape (k := i) (v := v) h
    exact .inl ⟨i, t, rfl, e⟩
  | .inr x, v, h => by
    obtain ⟨t, e⟩ := Value.isStrOf_shape (x := x) (v := v) h
    exact .inr ⟨x, t, rfl, e⟩
theorem keyIs_int (i : Int) (t : Tok) : keyIs (.inl i) (.int i t) = true := by simp [keyIs, Value.isInt]
theorem keyIs_str (x : Str) (t : Tok) : keyIs (.inr x) (.str x t) = true := by simp [keyIs, Value.isStrOf]
theorem key_ll (a b : Int) : decide ((Sum.inl a : Key) = Sum.inl b) = (a == b) := by
  by_cases e : a = b
  · subst e; simp
  · have h : ¬ (Sum.inl a : Key) = Sum.inl b := fun q => e (Sum.inl.inj q)
    rw [decide_eq_false h]
    exact (beq_eq_false_iff_ne.mpr e).symm
theorem key_rr (a b : Str) : decide ((Sum.inr a : Key) = Sum.inr b) = decide (a = b) := by
  by_cases e : a = b
  · subst e; simp
  · have h : ¬ (Sum.inr a : Key) = Sum.inr b := fun q => e (Sum.inr.inj q)
    rw [decide_eq_false h, decide_eq_false e]
theorem key_lr (a : Int) (b : Str) : decide ((Sum.inl a : Key) = Sum.inr b) = false := decide_eq_false (fun q => nomatch q)
theorem key_rl (a : Str) (b : Int) : decide ((Sum.inr a : Key) = Sum.inl b) = false := decide_eq_false (fun q => nomatch q)
def mixKind (prog : Program) (w : World) : PySem.KeyKind prog w Key where
  is := keyIs
  hash := keyH w
  inj := fun v a b ha hb => by
    rcases keyIs_shape ha with ⟨i, t, rfl, rfl⟩ | ⟨x, t, rfl, rfl⟩
    · rcases keyIs_shape hb with ⟨j, u, rfl, e⟩ | ⟨y, u, rfl, e⟩
      · injection e with e1 _; rw [e1]
      · exact nomatch e
    · rcases keyIs_shape hb with ⟨j, u, rfl, e⟩ | ⟨y, u, rfl, e⟩
      · exact nomatch e
      · injection e with e1 _; rw [e1]
  byValue := fun k v h => by
    rcases keyIs_shape h with ⟨i, t, rfl, rfl⟩ | ⟨x, t, rfl, rfl⟩ <;> rfl
  pyHash := fun hv h => by
    rcases keyIs_shape hv with ⟨i, t, rfl, rfl⟩ | ⟨x, t, rfl, rfl⟩
    · exact wpAny_pyHash_int h
    · exact wpAny_pyHash_str h
  eqBool := fun hu hv h => by
    rcases keyIs_shape hu with ⟨i, t, rfl, rfl⟩ | ⟨x, t, rfl, rfl⟩
    · rcases keyIs_shape hv with ⟨j, u, rfl, rfl⟩ | ⟨y, u, rfl, rfl⟩
      · rw [key_ll] at h; exact wpAny_eqBool_int h
      · rw [key_lr] at h; exact SeqAt.EqAt.int_str i t y u _ _ _ _ h
    · rcases keyIs_shape hv with ⟨j, u, rfl, rfl⟩ | ⟨y, u, rfl, rfl⟩
      · rw [key_rl] at h; exact SeqAt.EqAt.str_int x t j u _ _ _ _ h
      · rw [key_rr] at h; exact wpAny_eqBool_str h
  «strs» := fun k x t v h => by
    rcases keyIs_shape h with ⟨i, u, rfl, e⟩ | ⟨y, u, rfl, e⟩
    · exact nomatch e
    · injection e with e1 _
      subst e1
      cases v <;> rfl
theorem mixKind_int (prog : Program) (w : World) (i : Int) (t : Tok) : (mixKind prog w).is (.inl i) (.int i t) = true := keyIs_int i t
theorem mixKind_str (prog : Program) (w : World) (x : Str) (t : Tok) : (mixKind prog w).is (.inr x) (.str x t) = true := keyIs_str x t
end L2
namespace L2
open PySem PySem.Spec PyProof.Rows
inductive V where
  | non | bl (b : Bool) | int (i : Int) | str (x : Str) | byt (b : Array UInt8) | flt (b : UInt64) | ref (a : Addr) | ty (n : String)
  deriving DecidableEq
def RelV : V -> Value -> Prop
  | .non, u => u = Value.none
  | .bl b, u => u = Value.bool b
  | .int i, u => ∃ t, u = Value.int i t
  | .str x, u => ∃ t, u = Value.str x t
  | .byt b, u => ∃ t, u = Value.bytes b t
  | .flt b, u => ∃ t, u = Value.float b t
  | .ref a, u => u = Value.ref a
  | .ty n, u => u = Value.type n
abbrev Vals : List V -> List Value -> Prop := Paired RelV
theorem Vals.length {xs : List V} {us : List Value} (r : Vals xs us) : xs.length = us.length := Paired.length r
theorem Vals.get : ∀ {xs : List V} {us : List Value} {i : Nat} {x : V}, Vals xs us -> xs[i]? = some x -> ∃ u, us[i]? = some u /\ RelV x u
  | _, _, _, _, .nil, e => by simp at e
  | _, _, 0, _, .cons r _, e => by simp at e; subst e; exact ⟨_, rfl, r⟩
  | _, _, i + 1, x, .cons _ t, e => by
    obtain ⟨u, h1, h2⟩ := Vals.get (i := i) (x := x) t (by simpa using e)
    exact ⟨u, by simpa using h1, h2⟩
theorem Vals.append : ∀ {xs ys : List V} {us ws : List Value}, Vals xs us -> Vals ys ws -> Vals (xs ++ ys) (us ++ ws)
  | _, _, _, _, .nil, s => s
  | _, _, _, _, .cons r t, s => .cons r (Vals.append t s)
theorem Vals.take : ∀ {xs : List V} {us : List Value} (n : Nat), Vals xs us -> Vals (xs.take n) (us.take n)
  | _, _, 0, _ => .nil
  | _, _, _ + 1, .nil => .nil
  | _, _, n + 1, .cons r t => .cons r (Vals.take n t)
theorem Vals.drop : ∀ {xs : List V} {us : List Value} (n : Nat), Vals xs us -> Vals (xs.drop n) (us.drop n)
  | _, _, 0, r => r
  | _, _, _ + 1, .nil => .nil
  | _, _, n + 1, .cons _ t => Vals.drop n t
def RelO : Option V -> Option Value -> Prop
  | some v, some u => RelV v u
  | none, none => True
  | _, _ => False
def KV {κ : Type} : List (κ × V) -> List (κ × Value) -> Prop := Paired fun (p : κ × V) (q : κ × Value) => p.1 = q.1 /\ RelV p.2 q.2
def kV : Key -> V
  | .inl i => .int i
  | .inr x => .str x
inductive HO where
  /-- a list -/
  | lst (xs : List V)
  /-- a tuple (never changes) -/
  | tup (xs : List V)
  /-- a dict whose keys are ints and texts; one whose keys are tuples of ints and texts (the empty one is both) -/
  | dK (kvs : List (Key × V)) | dT (kvs : List (List Key × V))
  /-- a set of ints: its members, its size -/
  | set (S : Int -> Bool) (n : Nat)
  /-- an instance of the class at C, its dict at dx, its attributes -/
  | ins (C dx : Addr) (fs : List (Str × V))
  /-- the dict of the instance at x -/
  | own (x : Addr)
  /-- the dict of an exception -/
  | xd (fs : List (Str × V))
  /-- a bound method, f of x -/
  | met (f x : Addr)
  /-- a range object lo, lo + 1, .. below hi -/
  | rng (lo hi : Int)
  /-- a thing that is known to the object (the script; a dict while a loop walks it): read, never written while it is so -/
  | frz (o : Obj) (u : HO)
  /-- a code object's table -/
  | tbl (ps : Array Value)
  /-- any other thing, by what is true of its one object (a def of one's own: SetO a S n := HO.ext fun h => ..) -/
  | ext (φ : Heap -> Prop)
abbrev Hp := Addr -> Option HO
def upd (H : Hp) (a : Addr) (o : HO) : Hp := fun b => if b = a then some o else H b
theorem upd_same {H : Hp} {a : Addr} {o : HO} : upd H a o a = some o := by unfold upd; rw [if_pos rfl]
theorem upd_ne {H : Hp} {a b : Addr} {o : HO} (h : b ≠ a) : upd H a o b = H b := by unfold upd; rw [if_neg h]
theorem ne_of {H : Hp} {a b : Addr} {o u : HO} (h : H a = some o) (h' : H b = some u) (d : o ≠ u) : a ≠ b := by
  intro e; subst e; rw [h] at h'; exact d (Option.some.inj h')
theorem ne_of_none {H : Hp} {a b : Addr} {o : HO} (h : H a = some o) (h' : H b = none) : a ≠ b := by
  intro e; subst e; rw [h] at h'; cases h'
section
variable (P : Program) (w : World)
def ObjOk (H : Hp) (h : Heap) (a : Addr) : HO -> Prop
  | .lst xs => xs.length <= sizeLine /\ ∃ (its : List Value) (n : Nat), Vals xs its /\ h.get? a = some { cls := .type "list", data := .seq its.toArray n }
  | .tup xs => xs.length <= sizeLine /\ ∃ its : List Value, Vals xs its /\ IsTup h a its.toArray
  | .dK kvs => kvs.length <= sizeLine /\ (a == sysModules) = false /\ ∃ vs, KV kvs vs /\ h.DictOf (mixKind P w) a vs
  | .dT kvs => kvs.length <= sizeLine /\ (a == sysModules) = false /\ ∃ xs : List (List Key × Addr × Value),
      Paired (fun (p : List Key × V) (q : List Key × Addr × Value) => p.1 = q.1 /\ H q.2.1 = some (.tup (p.1.map kV)) /\ RelV p.2 q.2.2) kvs xs /\
      ∃ o es ep, h.get? a = some o /\ o.ExactDict /\ o.data = .dict es ep /\ es.toList = xs.map (entryOfKey (tupleKind (mixKind P w))) /\ (xs.map (·.1)).Nodup
  | .set S n => h.SetOf (intKind P w) a S n
  | .ins C dx fs => H dx = some (.own a) /\ fs.length <= 1000 /\ dx ≠ a /\ h.get? a = some (PySem.W.instObj C dx) /\
      ∃ mA, h.Ns1 dx mA /\ (∀ f, RelO (fs.lookup f) (mA f)) /\ PySem.Within mA (fs.map (·.1))
  | .own _ => ∃ o, h.get? a = some o
  | .xd fs => ∃ mA, h.Ns1 a mA /\ ∀ f, RelO (fs.lookup f) (mA f)
  | .rng lo hi => ∃ t u v, h.get? a = some { cls := .type "range", data := .fields #[.int lo t, .int hi u, .int 1 v] }
  | .frz o u => h.get? a = some o /\ ObjOk H h a u
  | .tbl ps => h.get? a = some { cls := .none, data := .fields ps }
  | .met f x => h.get? a = some (PySem.W.methodObj (.ref f) (.ref x))
  | .ext φ => φ h /\ (∃ o, h.get? a = some o) /\ ∀ h1 h2 : Heap, φ h1 -> (∀ o, h1.get? a = some o -> h2.get? a = some o) -> φ h2
def HOk (H : Hp) (h : Heap) : Prop := ∀ a o, H a = some o -> ObjOk P w H h a o
end
section
variable {P : Program} {w : World} {H H' : Hp} {h h' : Heap} {a : Addr} {o : HO}
theorem ObjOk.lt (x : ObjOk P w H h a o) : a < h.objs.size := by
  cases o with
  | lst xs => obtain ⟨_, _, _, _, e⟩ := x; exact Heap.lt_size e
  | tup xs => obtain ⟨_, _, _, p⟩ := x; exact p.lt
  | dK kvs => obtain ⟨_, _, _, _, o, _, _, e, _⟩ := x; exact Heap.lt_size e
  | dT kvs => obtain ⟨_, _, _, _, o, _, _, e, _⟩ := x; exact Heap.lt_size e
  | set S n => obtain ⟨o, _, _, _, e, _⟩ := x; exact Heap.lt_size e
  | ins C dx fs => obtain ⟨_, _, _, e, _⟩ := x; exact Heap.lt_size e
  | own y => obtain ⟨_, e⟩ := x; exact Heap.lt_size e
  | xd fs => obtain ⟨_, ⟨_, _, _, e, _⟩, _⟩ := x; exact Heap.lt_size e
  | rng lo hi => obtain ⟨_, _, _, e⟩ := x; exact Heap.lt_size e
  | frz ob u => obtain ⟨e, _⟩ := x; exact Heap.lt_size e
  | tbl ps => exact Heap.lt_size (show h.get? a = some _ from x)
  | met f y => exact Heap.lt_size (show h.get? a = some _ from x)
  | ext φ => obtain ⟨_, ⟨_, e⟩, _⟩ := x; exact Heap.lt_size e
theorem Paired.mapP {α β : Type} {F G : α -> β -> Prop} : ∀ {l₁ : List α} {l₂ : List β}, Paired F l₁ l₂ -> (∀ a b, F a b -> G a b) -> Paired G l₁ l₂
  | _, _, .nil, _ => .nil
  | _, _, .cons r t, f => .cons (f _ _ r) (Paired.mapP t f)
theorem ObjOk.stay (x : ObjOk P w H h a o) (k : ∀ b u, (b = a \/ H b = some (.own a)) -> h.get? b = some u -> h'.get? b = some u)
    (ho : ∀ b, H b = some (.own a) -> H' b = some (.own a)) (ht : ∀ b xs, H b = some (.tup xs) -> H' b = some (.tup xs)) : ObjOk P w H' h' a o := by
  induction o with
  | lst xs => obtain ⟨z, its, n, r, e⟩ := x; exact ⟨z, its, n, r, k _ _ (.inl rfl) e⟩
  | tup xs => obtain ⟨z, its, r, ob, e, c⟩ := x; exact ⟨z, its, r, ob, k _ _ (.inl rfl) e, c⟩
  | dK kvs => obtain ⟨z, y, vs, r, ob, es, ep, e, c⟩ := x; exact ⟨z, y, vs, r, ob, es, ep, k _ _ (.inl rfl) e, c⟩
  | dT kvs =>
    obtain ⟨z, y, xs, r, ob, es, ep, e, c⟩ := x
    exact ⟨z, y, xs, Paired.mapP r fun p q z => ⟨z.1, ht _ _ z.2.1, z.2.2⟩, ob, es, ep, k _ _ (.inl rfl) e, c⟩
  | set S n => obtain ⟨ob, es, ep, t, e, c⟩ := x; exact ⟨ob, es, ep, t, k _ _ (.inl rfl) e, c⟩
  | ins C dx fs =>
    obtain ⟨d, z, ne, e, mA, ⟨od, es, ep, e2, c⟩, r⟩ := x
    exact ⟨ho _ d, z, ne, k _ _ (.inl rfl) e, mA, ⟨od, es, ep, k _ _ (.inr d) e2, c⟩, r⟩
  | own y => obtain ⟨ob, e⟩ := x; exact ⟨ob, k _ _ (.inl rfl) e⟩
  | xd fs => obtain ⟨mA, ⟨od, es, ep, e, c⟩, r⟩ := x; exact ⟨mA, ⟨od, es, ep, k _ _ (.inl rfl) e, c⟩, r⟩
  | rng lo hi => obtain ⟨t, u, v, e⟩ := x; exact ⟨t, u, v, k _ _ (.inl rfl) e⟩
  | frz ob u ih => obtain ⟨e, q⟩ := x; exact ⟨k _ _ (.inl rfl) e, ih q⟩
  | tbl ps =>
    have e : h.get? a = some { cls := .none, data := .fields ps } := x
    show h'.get? a = some { cls := .none, data := .fields ps }
    exact k a _ (.inl rfl) e
  | met f y =>
    have e : h.get? a = some (PySem.W.methodObj (.ref f) (.ref y)) := x
    show h'.get? a = some (PySem.W.methodObj (.ref f) (.ref y))
    exact k a _ (.inl rfl) e
  | ext φ => obtain ⟨p, ⟨o, e⟩, st⟩ := x; exact ⟨st _ _ p fun o q => k _ _ (.inl rfl) q, ⟨o, k _ _ (.inl rfl) e⟩, st⟩
theorem HOk.lt (x : HOk P w H h) (e : H a = some o) : a < h.objs.size := (x a o e).lt
theorem HOk.fresh (x : HOk P w H h) (e : h.objs.size <= a) : H a = none := by
  cases q : H a with
  | none => rfl
  | some u => exact absurd (Nat.lt_of_lt_of_le (x.lt q) e) (Nat.lt_irrefl _)
theorem HOk.kept (x : HOk P w H h) (k : ∀ b u, h.get? b = some u -> h'.get? b = some u) : HOk P w H h' := fun a o e =>
  (x a o e).stay (fun b u _ q => k b u q) (fun _ q => q) fun _ _ q => q
theorem HOk.laid (x : HOk P w H h) (k : ∀ b u, h.get? b = some u -> h'.get? b = some u) (hp : h.objs.size <= a) (new : ObjOk P w (upd H a o) h' a o) : HOk P w (upd H a o) h' := fun b u e => by
  have hn := x.fresh hp
  by_cases hb : b = a
  · subst hb; rw [upd_same] at e; cases e; exact new
  · rw [upd_ne hb] at e
    exact (x b u e).stay (fun c v _ q => k c v q) (fun c q => by rw [upd_ne (ne_of_none q hn)]; exact q) fun c xs q => by rw [upd_ne (ne_of_none q hn)]; exact q
end
def Rd (H : Hp) (a : Addr) (u : HO) : Prop := H a = some u \/ ∃ o, H a = some (.frz o u)
theorem Rd.ok {P : Program} {w : World} {H : Hp} {h : Heap} {a : Addr} {u : HO} (r : Rd H a u) (x : HOk P w H h) : ObjOk P w H h a u := by
  rcases r with r | ⟨o, r⟩
  · exact x a u r
  · obtain ⟨_, q⟩ := x a _ r
    exact q
def Mut : Option HO -> Prop
  | some (.lst _) => True
  | some (.dK _) => True
  | some (.dT _) => True
  | some (.set _ _) => True
  | some (.ins _ _ _) => True
  | some (.ext _) => True
  | _ => False
section
variable {P : Program} {w : World} {H : Hp} {h h' : Heap} {x e : Addr} {o' : HO}
theorem HOk.write (ok : HOk P w H h) (mu : Mut (H x)) (he : e = x \/ H e = some (.own x)) (k : ∀ b u, b ≠ e -> h.get? b = some u -> h'.get? b = some u) (heo : ∃ u, h'.get? e = some u)
    (new : ObjOk P w (upd H x o') h' x o') : HOk P w (upd H x o') h' := fun b u q => by
  have nown : ∀ c y, H c = some (.own y) -> c ≠ x := fun c y r z => by subst z; rw [r] at mu; exact mu
  have ntup : ∀ c xs, H c = some (.tup xs) -> c ≠ x := fun c xs r z => by subst z; rw [r] at mu; exact mu
  by_cases hb : b = x
  · subst hb; rw [upd_same] at q; cases q; exact new
  · rw [upd_ne hb] at q
    by_cases hbe : b = e
    · have q' : H b = some (.own x) := by
        rcases he with z | z
        · exact absurd (hbe.trans z) hb
        · rw [hbe]; exact z
      rw [q] at q'; cases q'
      obtain ⟨v, hv⟩ := heo
      exact ⟨v, by rw [hbe]; exact hv⟩
    · refine (ok b u q).stay (fun c v hc r => k c v ?_ r) (fun c r => by rw [upd_ne (nown c b r)]; exact r) fun c xs r => by rw [upd_ne (ntup c xs r)]; exact r
      rcases hc with rfl | hc
      · exact hbe
      · rintro rfl
        rcases he with z | z
        · exact nown c b hc z
        · rw [hc] at z; cases z; exact hb rfl
end
structure Un (fs ex : List Addr) (H H' : Hp) (h h' : Heap) : Prop where
  keep : ∀ b o, h.get? b = some o -> H b = none -> b ∉ fs -> b ∉ ex -> h'.get? b = some o
  slot : ∀ b o, h.get? b = some o -> H b = none -> b ∈ fs -> b ∉ ex -> ∃ sl, h'.get? b = some { o with slots := sl }
  free : ∀ b o, h.get? b = some o -> H b = none -> b ∉ ex -> H' b = none
  there : ∀ b o, h.get? b = some o -> b ∉ ex -> ∃ o', h'.get? b = some o'
  tups : ∀ b xs, H b = some (.tup xs) -> H' b = some (.tup xs)
  frzs : ∀ b o u, H b = some (.frz o u) -> H' b = some (.frz o u)
  tbls : ∀ b ps, H b = some (.tbl ps) -> ∃ more, H' b = some (.tbl (ps ++ more))
section
variable {fs fs' ex ex' : List Addr} {H H1 H2 : Hp} {h h1 h2 h' : Heap} {a x e : Addr} {o : HO}
theorem Un.any (u : Un fs ex H H1 h h1) {b : Addr} {ob : Obj} (q : h.get? b = some ob) (n : H b = none) (hx : b ∉ ex) : ∃ sl, h1.get? b = some { ob with slots := sl } := by
  by_cases hb : b ∈ fs
  · exact u.slot b ob q n hb hx
  · exact ⟨ob.slots, u.keep b ob q n hb hx⟩
theorem Un.kept (k : ∀ b u, h.get? b = some u -> h'.get? b = some u) : Un fs ex H H h h' :=
  ⟨fun b ob q _ _ _ => k b ob q, fun b ob q _ _ _ => ⟨ob.slots, k b ob q⟩, fun _ _ _ n _ => n, fun b ob q _ => ⟨ob, k b ob q⟩, fun _ _ q => q, fun _ _ _ q => q, fun _ ps q => ⟨#[], by rw [q]; simp⟩⟩
theorem Un.refl : Un fs ex H H h h := Un.kept fun _ _ q => q
theorem Un.laid (k : ∀ b u, h.get? b = some u -> h'.get? b = some u) (hp : h.objs.size <= a) (hn : H a = none) : Un fs ex H (upd H a o) h h' where
  keep := fun b u q _ _ _ => k b u q
  slot := fun b u q _ _ _ => ⟨u.slots, k b u q⟩
  free := fun b u q n _ => by rw [upd_ne (Nat.ne_of_lt (Nat.lt_of_lt_of_le (Heap.lt_size q) hp))]; exact n
  there := fun b u q _ => ⟨u, k b u q⟩
  tups := fun b xs q => by rw [upd_ne (ne_of_none q hn)]; exact q
  frzs := fun b u xs q => by rw [upd_ne (ne_of_none q hn)]; exact q
  tbls := fun b ps q => ⟨#[], by rw [upd_ne (ne_of_none q hn), q]; simp⟩
theorem Un.write (mu : Mut (H x)) (he : e = x \/ H e = some (.own x)) (k : ∀ b u, b ≠ e -> h.get? b = some u -> h'.get? b = some u) (heo : ∃ u, h'.get? e = some u) : Un fs ex H (upd H x o) h h' := by
  have hx : ∀ b, H b = none -> b ≠ x := fun b n z => by subst z; rw [n] at mu; exact mu
  have hb : ∀ b, H b = none -> b ≠ e := fun b n z => by
    subst z
    rcases he with r | r
    · exact hx b n r
    · rw [n] at r; cases r
  have hm : ∀ b u, H b = some u -> ¬ Mut (some u) -> b ≠ x := fun b u q nm z => by subst z; rw [q] at mu; exact nm mu
  refine ⟨fun b u q n _ _ => k b u (hb b n) q, fun b u q n _ _ => ⟨u.slots, k b u (hb b n) q⟩, fun b u q n _ => by rw [upd_ne (hx b n)]; exact n, fun b u q _ => ?_,
    fun b xs q => by rw [upd_ne (hm b _ q fun z => z)]; exact q, fun b u xs q => by rw [upd_ne (hm b _ q fun z => z)]; exact q, fun b ps q => ⟨#[], by rw [upd_ne (hm b _ q fun z => z), q]; simp⟩⟩
  by_cases hbe : b = e
  · subst hbe; exact heo
  · exact ⟨u, k b u hbe q⟩
end
def trk (h : Heap) (H : Hp) : List Addr := (List.range h.objs.size).filter fun a => (H a).isSome
def hidT (h : Heap) (H : Hp) : Heap := PySem.W.hideAll h (trk h H)
theorem hidT_size (h : Heap) (H : Hp) : (hidT h H).objs.size = h.objs.size := PySem.W.hideAll_size _ _
theorem hidT_get {h : Heap} {H : Hp} {b : Addr} {o : Obj} (e : h.get? b = some o) (n : H b = none) : (hidT h H).get? b = some o :=
  PySem.W.hideAll_get _ e fun hm => by
    have q : (H b).isSome = true := (List.mem_filter.mp hm).2
    rw [n] at q; simp at q
theorem of_hidT {h : Heap} {H : Hp} {b : Addr} {o : Obj} (e : (hidT h H).get? b = some o) : h.get? b = some o /\ H b = none := by
  have e' : h.get? b = some o := PySem.W.of_hideAll (trk h H) e
  refine ⟨e', ?_⟩
  cases q : H b with
  | none => rfl
  | some x =>
    have hm : b ∈ trk h H := List.mem_filter.mpr ⟨List.mem_range.mpr (Heap.lt_size e'), by simp [q]⟩
    have z : (hidT h H).get? b = none := PySem.W.hideAll_none (trk h H) hm
    rw [z] at e; cases e
def allNews (g h : Heap) (L : Addr) : List (Addr × Obj) := (List.range h.objs.size).filterMap fun a => if a = L \/ (g.get? a).isSome = true then none else (h.get? a).map fun o => (a, o)
theorem mem_allNews {g h : Heap} {L a : Addr} {o : Obj} (h1 : a ≠ L) (h2 : g.get? a = none) (h3 : h.get? a = some o) : (a, o) ∈ allNews g h L :=
  List.mem_filterMap.mpr ⟨a, List.mem_range.mpr (Heap.lt_size h3), by simp [h1, h2, h3]⟩
theorem of_mem_allNews {g h : Heap} {L : Addr} {p : Addr × Obj} (hp : p ∈ allNews g h L) : p.1 ≠ L /\ g.get? p.1 = none /\ h.get? p.1 = some p.2 := by
  obtain ⟨b, _, e⟩ := List.mem_filterMap.mp hp
  split at e
  · cases e
  · rename_i hn
    cases q : h.get? b with
    | none => rw [q] at e; simp at e
    | some u =>
      rw [q] at e
      simp only [Option.map_some, Option.some.injEq] at e
      subst e
      refine ⟨fun z => hn (.inl z), ?_, q⟩
      show g.get? b = none
      cases r : g.get? b with
      | none => rfl
      | some v => exact (hn (.inr (by simp [r]))).elim
def rest (g h : Heap) (L d : Addr) : List (Addr × Obj) := (allNews g h L).filter fun p => decide (p.1 ≠ d)
theorem news_all {g h : Heap} {L : Addr} : News g L h (allNews g h L) := fun p hp => let ⟨a, b, c⟩ := of_mem_allNews hp; ⟨c, a, b⟩
end L2
namespace L2
open PySem PySem.Spec PyProof.Rows
structure Mod (K : PySem.W.Frag) (mg : Str -> Option Value) (base : Heap) : Prop where
  kin : K.In base
  glob : base.Ns mainGlobals mg
  blt : ∃ mb, base.Ns builtinsNs mb /\ ∀ x : Str, x ≠ "__name__" -> mb x = bootBuiltins x
  nolimit : base.NoLimit
structure Cx where
  prog : Program
  w : World
  K : PySem.W.Frag
  mg : Str -> Option Value
  base : Heap
  A : Around
  N : List Str
  s₀ : Shared
  H₀ : Hp
  env : Env
  outer : List Env
  stack : List Env
  ex : List Addr
  fn : Str -> Bool
  calm : Bool
  pn : List (Addr × Obj)
  xe : Value -> Shared -> Prop
def frs (l : List Env) : List Addr := l.filterMap (·.frame)
abbrev Cx.fs (X : Cx) : List Addr := frs X.outer
def Vis (sc : Scope) (x : Str) : Prop := sc.names.lookup x = some .local \/ sc.names.lookup x = some .cell \/ sc.names.lookup x = some .free
def Loc (sc : Scope) (x : Str) : Prop := sc.names.lookup x = some .local \/ sc.names.lookup x = some .cell
def Look (env : Env) (h : Heap) (m : Str -> Option Value) (x : Str) (u : Value) : Prop :=
  (env.kindOf x = some .local /\ m x = some u) \/ ((env.kindOf x = some .cell \/ env.kindOf x = some .free) /\ ∃ c, env.cells.lookup x = some c /\ h.IsCell c (some u))
structure Cx.Ok (X : Cx) : Prop where
  mod : Mod X.K X.mg X.base
  kind : X.env.scope.kind = .function
  glob : X.env.globals = mainGlobals
  blt : X.env.builtins = builtinsNs
  above : X.s₀.heap.objs.size <= X.env.locals
  inj : ∀ x y c, X.env.cells.lookup x = some c -> X.env.cells.lookup y = some c -> x = y
  has : ∀ x, (X.env.kindOf x = some .cell \/ X.env.kindOf x = some .free) -> ∃ c, X.env.cells.lookup x = some c
  cab : ∀ x c, X.fn x = true -> X.env.cells.lookup x = some c -> X.s₀.heap.objs.size <= c
  hd : X.calm = true -> X.A.handled = none
  frames : X.A.frames = some X.stack
  stk : X.stack = X.outer \/ (X.stack = X.env :: X.outer /\ X.env.frame = some X.env.locals)
  exf : ∀ b ∈ X.ex, b ≠ X.env.locals /\ ∀ x c, X.env.cells.lookup x = some c -> c ≠ b
  bs : ∀ b o, X.base.get? b = some o -> X.s₀.heap.get? b = some o /\ X.H₀ b = none
  bsz : X.base.objs.size <= X.s₀.heap.objs.size
  noex : ∀ b o, X.base.get? b = some o -> b ∉ X.ex
  exfs : ∀ b ∈ X.ex, b ∉ X.fs
  funs : X.s₀.heap.FunFrames X.base X.outer
  frf : ∀ b ∈ X.fs, X.H₀ b = none
structure Inv (X : Cx) (pins : List (Addr × Obj)) (σ : List (Option V)) (H : Hp) (s : Shared) : Prop where
  ok : X.Ok
  os : s.os = X.s₀.os
  bare : AllBare s.gens
  base : Un X.fs X.ex X.H₀ H X.s₀.heap s.heap
  loc : ∃ m, s.heap.Ns X.env.locals m /\ ∀ (i : Nat) (x : Str) (v : V), X.N[i]? = some x -> σ[i]? = some (some v) -> Vis X.env.scope x -> ∃ u, RelV v u /\ Look X.env s.heap m x u
  cell : ∀ x c, X.env.cells.lookup x = some c -> ∃ v, s.heap.IsCell c v
  free : H X.env.locals = none
  freeC : ∀ x c, X.env.cells.lookup x = some c -> H c = none
  pin : ∀ p ∈ X.pn ++ pins, s.heap.get? p.1 = some p.2 /\ H p.1 = none /\ p.1 ≠ X.env.locals /\ p.1 ∉ X.fs /\ ∀ v, p.2.data ≠ .cell v
  hok : HOk X.prog X.w H s.heap
  len : σ.length = X.N.length
section
variable {X : Cx} {pins : List (Addr × Obj)} {σ : List (Option V)} {H H' : Hp} {s : Shared} {h' : Heap}
theorem Cx.Ok.nofr (ok : X.Ok) {b : Addr} {o : Obj} (e : X.base.get? b = some o) : b ∉ X.fs := fun hb => by
  have := (ok.funs.mem hb).1
  rw [e] at this; cases this
theorem Inv.bs (I : Inv X pins σ H s) : ∀ b o, X.base.get? b = some o -> s.heap.get? b = some o /\ H b = none := fun b o e =>
  ⟨I.base.keep b o (I.ok.bs b o e).1 (I.ok.bs b o e).2 (I.ok.nofr e) (I.ok.noex b o e), I.base.free b o (I.ok.bs b o e).1 (I.ok.bs b o e).2 (I.ok.noex b o e)⟩
theorem Inv.bk (I : Inv X pins σ H s) : ∀ b o, X.base.get? b = some o -> s.heap.get? b = some o := fun b o e => (I.bs b o e).1
theorem Inv.mod (I : Inv X pins σ H s) : Mod X.K X.mg X.base := I.ok.mod
theorem Inv.kIn (I : Inv X pins σ H s) : X.K.In s.heap := I.ok.mod.kin.keeps I.bk
theorem Inv.fr (I : Inv X pins σ H s) : ∃ m, Fr X.base X.env.locals s.heap m :=
  let ⟨m, hn, _⟩ := I.loc
  ⟨m, hn, I.bk, Nat.le_trans I.ok.bsz I.ok.above⟩
theorem Inv.lt (I : Inv X pins σ H s) : X.env.locals < s.heap.objs.size := let ⟨_, hn, _⟩ := I.loc; hn.lt
theorem Inv.sz (I : Inv X pins σ H s) : X.s₀.heap.objs.size <= s.heap.objs.size := Nat.le_trans I.ok.above (Nat.le_of_lt I.lt)
theorem Inv.nofs (I : Inv X pins σ H s) {a : Addr} (h : s.heap.objs.size <= a) : a ∉ X.fs := fun hb => by
  obtain ⟨_, o, ho, _⟩ := I.ok.funs.mem hb
  exact absurd (Nat.lt_of_lt_of_le (Heap.lt_size ho) (Nat.le_trans I.sz h)) (Nat.lt_irrefl _)
theorem Inv.cne (I : Inv X pins σ H s) : ∀ x c, X.env.cells.lookup x = some c -> c ≠ X.env.locals := fun x c e z => by
  obtain ⟨v, o, ho, hd⟩ := I.cell x c e
  obtain ⟨m, ⟨o', es, ep, ho', hd', _⟩, _⟩ := I.loc
  rw [z, ho'] at ho; cases ho; rw [hd'] at hd; cases hd
theorem Inv.funs (I : Inv X pins σ H s) : s.heap.FunFrames X.base X.outer := by
  have all : ∀ (l : List Env), (∀ b ∈ frs l, b ∈ X.fs) -> X.s₀.heap.FunFrames X.base l -> s.heap.FunFrames X.base l := by
    intro l
    induction l with
    | nil => intro _ _; trivial
    | cons env r ih =>
      intro hs hl
      obtain ⟨hk, ⟨L, o, hf, hn, ho, hd⟩, hr⟩ := hl
      have hL : L ∈ X.fs := hs L (by unfold frs; rw [List.filterMap_cons, hf]; exact List.mem_cons_self)
      obtain ⟨sl, e⟩ := I.base.slot L o ho (I.ok.frf L hL) hL fun z => I.ok.exfs L z hL
      exact ⟨hk, ⟨L, _, hf, hn, e, hd⟩, ih (fun b hb => hs b (by unfold frs; rw [List.filterMap_cons, hf]; exact List.mem_cons_of_mem _ hb)) hr⟩
  exact all X.outer (fun _ hb => hb) I.ok.funs
theorem Inv.stack (I : Inv X pins σ H s) : s.heap.FunFrames X.base X.stack := by
  rcases I.ok.stk with e | ⟨e, hf⟩
  · rw [e]; exact I.funs
  · rw [e]
    obtain ⟨m, hn, _⟩ := I.loc
    refine .cons (by rw [I.ok.kind]; decide) hf hn ?_ I.funs
    exact Heap.get?_none_of_le (Nat.le_trans I.ok.bsz I.ok.above)
theorem Inv.stkSub (I : Inv X pins σ H s) : ∀ b ∈ frs X.stack, b ∈ X.env.locals :: X.fs := fun b hb => by
  rcases I.ok.stk with e | ⟨e, hf⟩
  · rw [e] at hb; exact List.mem_cons_of_mem _ hb
  · rw [e] at hb
    unfold frs at hb
    rw [List.filterMap_cons, hf] at hb
    exact hb
theorem Inv.stkFree (I : Inv X pins σ H s) : ∀ b ∈ frs X.stack, H b = none := fun b hb => by
  rcases List.mem_cons.mp (I.stkSub b hb) with e | hb
  · rw [e]; exact I.free
  · obtain ⟨_, o, ho, _⟩ := I.ok.funs.mem hb
    exact I.base.free b o ho (I.ok.frf b hb) fun z => I.ok.exfs b z hb
theorem Inv.step {g' : Array GenState} {t' : Nat} {d' : Drawn} {ch : List Addr} (I : Inv X pins σ H s)
    (hch : ∀ b ∈ ch, (b ∈ X.ex \/ X.s₀.heap.objs.size <= b) /\ b ≠ X.env.locals /\ (∀ x c, X.env.cells.lookup x = some c -> c ≠ b) /\ ∀ p ∈ X.pn ++ pins, p.1 ≠ b)
    (keep : ∀ b o, b ≠ X.env.locals -> b ∉ X.fs -> b ∉ ch -> s.heap.get? b = some o -> H b = none -> h'.get? b = some o)
    (slot : ∀ b o, b ≠ X.env.locals -> b ∈ X.fs -> b ∉ ch -> s.heap.get? b = some o -> H b = none -> ∃ sl, h'.get? b = some { o with slots := sl }) (free : ∀ b o, b ∉ ch -> s.heap.get? b = some o -> H b = none -> H' b = none)
    (there : ∀ b o, b ∉ ch -> s.heap.get? b = some o -> ∃ o', h'.get? b = some o')
    (tups : ∀ b xs, H b = some (.tup xs) -> H' b = some (.tup xs)) (frzs : ∀ b o u, H b = some (.frz o u) -> H' b = some (.frz o u)) (tbls : ∀ b ps, H b = some (.tbl ps) -> ∃ more, H' b = some (.tbl (ps ++ more)))
    (ns : ∀ m, s.heap.Ns X.env.locals m -> h'.Ns X.env.locals m) (hok : HOk X.prog X.w H' h') (hg : AllBare g') :
    Inv X pins σ H' { s with heap := h', gens := g', drawn := d', toks := t' } := by
  have neL : ∀ b o, X.s₀.heap.get? b = some o -> b ≠ X.env.locals := fun b o e => Nat.ne_of_lt (Nat.lt_of_lt_of_le (Heap.lt_size e) I.ok.above)
  have neC : ∀ b o, X.s₀.heap.get? b = some o -> b ∉ X.ex -> b ∉ ch := fun b o e hx hb => by
    rcases (hch b hb).1 with z | z
    · exact hx z
    · exact absurd (Nat.lt_of_lt_of_le (Heap.lt_size e) z) (Nat.lt_irrefl _)
  have cellK : ∀ x c, X.env.cells.lookup x = some c -> ∀ v, s.heap.IsCell c v -> h'.IsCell c v := fun x c e v ⟨o, ho, hd⟩ => by
    have nch : c ∉ ch := fun z => (hch c z).2.2.1 x c e rfl
    by_cases hc : c ∈ X.fs
    · obtain ⟨sl, q⟩ := slot c o (I.cne x c e) hc nch ho (I.freeC x c e)
      exact ⟨_, q, hd⟩
    · exact ⟨o, keep c o (I.cne x c e) hc nch ho (I.freeC x c e), hd⟩
  refine ⟨I.ok, I.os, hg, ⟨fun b o e n hb hx => ?_, fun b o e n hb hx => ?_, fun b o e n hx => ?_, fun b o e hx => ?_, fun b xs e => tups b xs (I.base.tups b xs e), fun b o xs e => frzs b o xs (I.base.frzs b o xs e), fun b ps e => ?_⟩, ?_, fun x c e => ?_, ?_, fun x c e => ?_, fun p hp => ?_, hok, I.len⟩
  · exact keep b o (neL b o e) hb (neC b o e hx) (I.base.keep b o e n hb hx) (I.base.free b o e n hx)
  · obtain ⟨sl, e1⟩ := I.base.slot b o e n hb hx
    obtain ⟨sl', e2⟩ := slot b _ (neL b o e) hb (neC b o e hx) e1 (I.base.free b o e n hx)
    exact ⟨sl', e2⟩
  · obtain ⟨o', e1⟩ := I.base.there b o e hx
    exact free b o' (neC b o e hx) e1 (I.base.free b o e n hx)
  · obtain ⟨o', e1⟩ := I.base.there b o e hx
    exact there b o' (neC b o e hx) e1
  · obtain ⟨m1, e1⟩ := I.base.tbls b ps e
    obtain ⟨m2, e2⟩ := tbls b _ e1
    exact ⟨m1 ++ m2, by rw [e2, Array.append_assoc]⟩
  · obtain ⟨m, hn, hl⟩ := I.loc
    refine ⟨m, ns m hn, fun i x v e1 e2 e3 => ?_⟩
    obtain ⟨u, r, l⟩ := hl i x v e1 e2 e3
    refine ⟨u, r, ?_⟩
    rcases l with l | ⟨k, c, e, z⟩
    · exact .inl l
    · exact .inr ⟨k, c, e, cellK x c e _ z⟩
  · obtain ⟨v, z⟩ := I.cell x c e
    exact ⟨v, cellK x c e v z⟩
  · obtain ⟨m, ⟨o, _, _, ho, _⟩, _⟩ := I.loc
    exact free _ o (fun z => (hch _ z).2.1 rfl) ho I.free
  · obtain ⟨v, o, ho, hd⟩ := I.cell x c e
    exact free c o (fun z => (hch c z).2.2.1 x c e rfl) ho (I.freeC x c e)
  · obtain ⟨e, n, ne, nf, d⟩ := I.pin p hp
    have nch : p.1 ∉ ch := fun z => (hch p.1 z).2.2.2 p hp rfl
    exact ⟨keep p.1 p.2 ne nf nch e n, free p.1 p.2 nch e n, ne, nf, d⟩
theorem Inv.un {t' : Nat} (I : Inv X pins σ H s) (u : Un X.fs [] H H' s.heap h') (hok : HOk X.prog X.w H' h') : Inv X pins σ H' { s with heap := h', toks := t' } := by
  obtain ⟨m, ⟨o, es, ep, ho, r⟩, _⟩ := id I.loc
  obtain ⟨sl, hL⟩ := u.any ho I.free (by simp)
  exact I.step (g' := s.gens) (d' := s.drawn) (ch := []) (fun _ z => nomatch z) (fun b o _ hb _ e n => u.keep b o e n hb (by simp)) (fun b o _ hb _ e n => u.slot b o e n hb (by simp)) (fun b o _ e n => u.free b o e n (by simp)) (fun b o _ e => u.there b o e (by simp)) u.tups u.frzs u.tbls (fun m' hm => by
    obtain ⟨o', es', ep', ho', r'⟩ := hm
    rw [ho] at ho'; cases ho'
    exact ⟨_, es', ep', hL, r'⟩) hok I.bare
theorem Inv.call {g' : Array GenState} {t' : Nat} {d' : Drawn} {ch : List Addr} (I : Inv X pins σ H s) (u : Un (frs X.stack) ch H H' s.heap h') (hok : HOk X.prog X.w H' h') (hg : AllBare g')
    (hch : ∀ b ∈ ch, (b ∈ X.ex \/ X.s₀.heap.objs.size <= b) /\ b ≠ X.env.locals /\ (∀ x c, X.env.cells.lookup x = some c -> c ≠ b) /\ ∀ p ∈ X.pn ++ pins, p.1 ≠ b) :
    Inv X pins σ H' { s with heap := h', gens := g', drawn := d', toks := t' } := by
  obtain ⟨m, ⟨o, es, ep, ho, r⟩, _⟩ := id I.loc
  obtain ⟨sl, hL⟩ := u.any ho I.free fun z => (hch _ z).2.1 rfl
  exact I.step (ch := ch) hch (fun b o hL hb hc e n => u.keep b o e n (fun z => (List.mem_cons.mp (I.stkSub b z)).elim hL hb) hc) (fun b o _ _ hc e n => u.any e n hc) (fun b o hc e n => u.free b o e n hc) (fun b o hc e => u.there b o e hc) u.tups u.frzs u.tbls (fun m' hm => by
    obtain ⟨o', es', ep', ho', r'⟩ := hm
    rw [ho] at ho'; cases ho'
    exact ⟨_, es', ep', hL, r'⟩) hok hg
theorem Inv.turned {t' : Nat} {it : Addr} (I : Inv X pins σ H s) (k : ∀ b o, b ≠ it -> s.heap.get? b = some o -> h'.get? b = some o) (hn : H it = none) (hL : it ≠ X.env.locals)
    (h1 : it ∈ X.ex \/ X.s₀.heap.objs.size <= it) (h2 : ∀ x c, X.env.cells.lookup x = some c -> c ≠ it) (h3 : ∀ p ∈ X.pn ++ pins, p.1 ≠ it) : Inv X pins σ H { s with heap := h', toks := t' } := by
  have nit : ∀ b u, H b = some u -> b ≠ it := fun b u e z => by rw [z, hn] at e; cases e
  refine I.step (g' := s.gens) (d' := s.drawn) (ch := [it]) (fun b hb => ?_) (fun b o _ _ hc e _ => k b o (fun z => hc (by simp [z])) e) (fun b o _ _ hc e _ => ⟨o.slots, k b o (fun z => hc (by simp [z])) e⟩) (fun _ _ _ _ n => n)
    (fun b o hc e => ⟨o, k b o (fun z => hc (by simp [z])) e⟩) (fun _ _ e => e) (fun _ _ _ e => e) (fun b ps e => ⟨#[], by rw [e]; simp⟩) (fun m hm => ?_) (fun b u e => ?_) I.bare
  · have e : b = it := by simpa using hb
    subst e
    exact ⟨h1, hL, h2, h3⟩
  · obtain ⟨o, es, ep, ho, r⟩ := hm
    exact ⟨o, es, ep, k _ o (Ne.symm hL) ho, r⟩
  · refine (I.hok b u e).stay (fun c v hc q => k c v ?_ q) (fun _ q => q) fun _ _ q => q
    rcases hc with z | z
    · rw [z]; exact nit b u e
    · exact nit c _ z
theorem Inv.tok (I : Inv X pins σ H s) (t : Nat) : Inv X pins σ H { s with toks := t } := I.un (h' := s.heap) (t' := t) Un.refl I.hok
theorem Inv.kept {t' : Nat} (I : Inv X pins σ H s) (k : ∀ b u, s.heap.get? b = some u -> h'.get? b = some u) : Inv X pins σ H { s with heap := h', toks := t' } := I.un (Un.kept k) (I.hok.kept k)
theorem Inv.laid {a : Addr} {o : HO} {t' : Nat} (I : Inv X pins σ H s) (k : ∀ b u, s.heap.get? b = some u -> h'.get? b = some u) (hp : s.heap.objs.size <= a) (new : ObjOk X.prog X.w (upd H a o) h' a o) :
    Inv X pins σ (upd H a o) { s with heap := h', toks := t' } := I.un (Un.laid k hp (I.hok.fresh hp)) (I.hok.laid k hp new)
theorem Inv.write {x e : Addr} {o : HO} {t' : Nat} (I : Inv X pins σ H s) (mu : Mut (H x)) (he : e = x \/ H e = some (.own x)) (k : ∀ b u, b ≠ e -> s.heap.get? b = some u -> h'.get? b = some u) (heo : ∃ u, h'.get? e = some u)
    (new : ObjOk X.prog X.w (upd H x o) h' x o) : Inv X pins σ (upd H x o) { s with heap := h', toks := t' } := I.un (Un.write mu he k heo) (I.hok.write mu he k heo new)
theorem Inv.pins_of {pins' : List (Addr × Obj)} (I : Inv X pins σ H s) (h : ∀ p ∈ pins', s.heap.get? p.1 = some p.2 /\ H p.1 = none /\ p.1 ≠ X.env.locals /\ p.1 ∉ X.fs /\ ∀ v, p.2.data ≠ .cell v) : Inv X pins' σ H s :=
  ⟨I.ok, I.os, I.bare, I.base, I.loc, I.cell, I.free, I.freeC, fun p hp => (List.mem_append.mp hp).elim (fun z => I.pin p (List.mem_append_left _ z)) (h p), I.hok, I.len⟩
theorem nodup_ix {N : List Str} (hN : N.Nodup) {i j : Nat} {x : Str} (a : N[i]? = some x) (b : N[j]? = some x) : i = j := by
  obtain ⟨h1, e1⟩ := List.getElem?_eq_some_iff.mp a
  obtain ⟨h2, e2⟩ := List.getElem?_eq_some_iff.mp b
  exact (List.getElem_inj hN).mp (e1.trans e2.symm)
theorem store_ok2 {M : Model} {A : Around} {E : Value -> Shared -> Prop} {i : Nat} {x : Str} {v : V} {u : Value} {Q : Unit -> Shared -> Prop} (I : Inv X pins σ H s) (hN : X.N.Nodup) (hi : X.N[i]? = some x) (hx : Loc X.env.scope x) (r : RelV v u)
    (h : ∀ s', Inv X pins (σ.set i (some v)) H s' -> (∃ a, Heap.SameBut a s.heap s'.heap /\ (a = X.env.locals \/ X.env.cells.lookup x = some a)) -> Q () s') (hf : X.fn x = true \/ X.env.scope.names.lookup x = some .local := by first | exact .inl rfl | exact .inr rfl | assumption) : wpAny M A (storeName X.env x u) Q E s := by
  obtain ⟨m, hn, hl⟩ := id I.loc
  have hcls : (X.env.scope.kind == .class || (X.env.scope.kind == .module && X.env.locals != X.env.globals)) = false := by rw [I.ok.kind]; rfl
  have hiσ : i < σ.length := by rw [I.len]; exact (List.getElem?_eq_some_iff.mp hi).1
  have cne := I.cne
  have tracked : ∀ {a : Addr} {h' : Heap}, (∃ o, s.heap.get? a = some o /\ H a = none) -> Heap.SameBut a s.heap h' -> HOk X.prog X.w H h' := fun {a h'} ha hs b ob e => by
    obtain ⟨_, _, hfree⟩ := ha
    refine (I.hok b ob e).stay (fun c w' hc q => (hs.2 c ?_).trans q) (fun _ q => q) fun _ _ q => q
    rintro rfl
    rcases hc with rfl | hc
    · rw [hfree] at e; cases e
    · rw [hfree] at hc; cases hc
  rcases hx with hk | hk
  · refine wpAny_storeName_local hk hn (fun h' hn' hs => ?_) hcls
    obtain ⟨oL, _, _, hoL, _⟩ := id hn
    refine h _ ⟨I.ok, I.os, I.bare, ⟨fun b o e n hb hx => ?_, fun b o e n hb hx => ?_, I.base.free, fun b o e hx => ?_, I.base.tups, I.base.frzs, I.base.tbls⟩, ⟨_, hn', fun j y v' e1 e2 e3 => ?_⟩, fun y c e => ?_, I.free, I.freeC, fun p hp => ?_, tracked ⟨oL, hoL, I.free⟩ hs, by simpa using I.len⟩ ⟨_, hs, .inl rfl⟩
    · exact (hs.2 b (Nat.ne_of_lt (Nat.lt_of_lt_of_le (Heap.lt_size e) I.ok.above))).trans (I.base.keep b o e n hb hx)
    · obtain ⟨sl, e1⟩ := I.base.slot b o e n hb hx
      exact ⟨sl, (hs.2 b (Nat.ne_of_lt (Nat.lt_of_lt_of_le (Heap.lt_size e) I.ok.above))).trans e1⟩
    · obtain ⟨o', e1⟩ := I.base.there b o e hx
      exact ⟨o', (hs.2 b (Nat.ne_of_lt (Nat.lt_of_lt_of_le (Heap.lt_size e) I.ok.above))).trans e1⟩
    · by_cases hj : j = i
      · subst hj
        rw [hi] at e1; cases e1
        rw [List.getElem?_set_self hiσ] at e2
        cases e2
        exact ⟨u, r, .inl ⟨hk, by simp⟩⟩
      · rw [List.getElem?_set_ne (Ne.symm hj)] at e2
        obtain ⟨u', r', q⟩ := hl j y v' e1 e2 e3
        refine ⟨u', r', ?_⟩
        rcases q with ⟨k, e⟩ | ⟨k, c, e, z⟩
        · refine .inl ⟨k, ?_⟩
          have : y ≠ x := fun e => hj (nodup_ix hN e1 (e ▸ hi))
          simp [this, e]
        · exact .inr ⟨k, c, e, z.sameBut hs (cne y c e)⟩
    · obtain ⟨w', z⟩ := I.cell y c e
      exact ⟨w', z.sameBut hs (cne y c e)⟩
    · obtain ⟨e, n, ne, nf, d⟩ := I.pin p hp
      exact ⟨(hs.2 p.1 ne).trans e, n, ne, nf, d⟩
  · have hfn : X.fn x = true := by
      rcases hf with z | z
      · exact z
      · rw [z] at hk; cases hk
    obtain ⟨c, hc⟩ := I.ok.has x (.inl hk)
    obtain ⟨w', z⟩ := I.cell x c hc
    refine wpAny_storeName_cell I.ok.kind hk hc z (fun h' hc' hs => ?_)
    obtain ⟨oc, hoc, hocd⟩ := id z
    refine h { s with heap := h' } ⟨I.ok, I.os, I.bare, ⟨fun b o e n hb hx => ?_, fun b o e n hb hx => ?_, I.base.free, fun b o e hx => ?_, I.base.tups, I.base.frzs, I.base.tbls⟩, ⟨m, hn.sameBut hs (Ne.symm (cne x c hc)), fun j y v' e1 e2 e3 => ?_⟩, fun y c' e => ?_, I.free, I.freeC, fun p hp => ?_, tracked ⟨oc, hoc, I.freeC x c hc⟩ hs, by simpa using I.len⟩ ⟨c, hs, .inr hc⟩
    · exact (hs.2 b (Nat.ne_of_lt (Nat.lt_of_lt_of_le (Heap.lt_size e) (I.ok.cab x c hfn hc)))).trans (I.base.keep b o e n hb hx)
    · obtain ⟨sl, e1⟩ := I.base.slot b o e n hb hx
      exact ⟨sl, (hs.2 b (Nat.ne_of_lt (Nat.lt_of_lt_of_le (Heap.lt_size e) (I.ok.cab x c hfn hc)))).trans e1⟩
    · obtain ⟨o', e1⟩ := I.base.there b o e hx
      exact ⟨o', (hs.2 b (Nat.ne_of_lt (Nat.lt_of_lt_of_le (Heap.lt_size e) (I.ok.cab x c hfn hc)))).trans e1⟩
    · by_cases hj : j = i
      · subst hj
        rw [hi] at e1; cases e1
        rw [List.getElem?_set_self hiσ] at e2
        cases e2
        exact ⟨u, r, .inr ⟨.inl hk, c, hc, hc'⟩⟩
      · rw [List.getElem?_set_ne (Ne.symm hj)] at e2
        obtain ⟨u', r', q⟩ := hl j y v' e1 e2 e3
        refine ⟨u', r', ?_⟩
        rcases q with q | ⟨k, c', e, z'⟩
        · exact .inl q
        · refine .inr ⟨k, c', e, z'.sameBut hs ?_⟩
          rintro rfl
          exact hj (nodup_ix hN e1 (I.ok.inj _ _ _ e hc ▸ hi))
    · by_cases hcc : c' = c
      · subst hcc; exact ⟨_, hc'⟩
      · obtain ⟨w2, z2⟩ := I.cell y c' e
        exact ⟨w2, z2.sameBut hs hcc⟩
    · obtain ⟨e, n, ne, nf, d⟩ := I.pin p hp
      refine ⟨(hs.2 p.1 ?_).trans e, n, ne, nf, d⟩
      intro q
      rw [q, hoc] at e
      have q' : oc = p.2 := Option.some.inj e
      exact d w' (by rw [<- q']; exact hocd)
theorem store_ok {M : Model} {A : Around} {E : Value -> Shared -> Prop} {i : Nat} {x : Str} {v : V} {u : Value} {Q : Unit -> Shared -> Prop} (I : Inv X pins σ H s) (hN : X.N.Nodup) (hi : X.N[i]? = some x) (hx : Loc X.env.scope x) (r : RelV v u)
    (h : ∀ s', Inv X pins (σ.set i (some v)) H s' -> Q () s') (hf : X.fn x = true \/ X.env.scope.names.lookup x = some .local := by first | exact .inl rfl | exact .inr rfl | assumption) : wpAny M A (storeName X.env x u) Q E s :=
  store_ok2 I hN hi hx r (fun s' I' _ => h s' I') hf
end
abbrev XK := Value -> Option Addr -> Hp -> Prop
abbrev St := List (Option V)
abbrev VK := V -> Hp -> Prop
abbrev TE := St -> Hp -> VK -> Prop
abbrev TT := St -> Hp -> (Bool -> Hp -> Prop) -> Prop
abbrev TA := St -> Hp -> (List V -> Hp -> Prop) -> Prop
structure Ends where
  nx : St -> Hp -> Prop
  rt : VK
  bk : St -> Hp -> Prop := fun _ _ => False
  ct : St -> Hp -> Prop := fun _ _ => False
abbrev TS := Ends -> St -> Hp -> Prop
def EP (X : Cx) (pins : List (Addr × Obj)) (σ : St) (Q : VK) (u : Value) (s' : Shared) : Prop := ∃ v H', Inv X pins σ H' s' /\ RelV v u /\ Q v H'
def TP (X : Cx) (pins : List (Addr × Obj)) (σ : St) (Q : Bool -> Hp -> Prop) (b : Bool) (s' : Shared) : Prop := ∃ H', Inv X pins σ H' s' /\ Q b H'
def AP (X : Cx) (pins : List (Addr × Obj)) (σ : St) (Q : List V -> Hp -> Prop) (us : List Value) (s' : Shared) : Prop := ∃ vs H', Inv X pins σ H' s' /\ Vals vs us /\ Q vs H'
def SP (X : Cx) (pins : List (Addr × Obj)) (D : Ends) (f : Flow) (s' : Shared) : Prop :=
  match f with
  | .next => ∃ σ' H', Inv X pins σ' H' s' /\ D.nx σ' H'
  | .brk => ∃ σ' H', Inv X pins σ' H' s' /\ D.bk σ' H'
  | .cont => ∃ σ' H', Inv X pins σ' H' s' /\ D.ct σ' H'
  | .ret u => ∃ v σ' H', Inv X pins σ' H' s' /\ RelV v u /\ D.rt v H'
def PE (X : Cx) (e : Expr) (t : TE) : Prop :=
  ∀ (pins : List (Addr × Obj)) (s : Shared) (σ : St) (H : Hp) (Q : VK), Inv X pins σ H s -> t σ H Q -> wpAny (model X.prog X.w) X.A (eval e X.env) (EP X pins σ Q) X.xe s
def PT (X : Cx) (e : Expr) (t : TT) : Prop :=
  ∀ (pins : List (Addr × Obj)) (s : Shared) (σ : St) (H : Hp) (Q : Bool -> Hp -> Prop), Inv X pins σ H s -> t σ H Q -> wpAny (model X.prog X.w) X.A (isTrue e X.env (eval e X.env)) (TP X pins σ Q) X.xe s
def PW (X : Cx) (e : Expr) (t : TT) : Prop :=
  ∀ (whole : Sem Value) (pins : List (Addr × Obj)) (s : Shared) (σ : St) (H : Hp) (Q : Bool -> Hp -> Prop), Inv X pins σ H s -> t σ H Q -> wpAny (model X.prog X.w) X.A (isTrue e X.env whole) (TP X pins σ Q) X.xe s
theorem PW.pt {X : Cx} {e : Expr} {t : TT} (h : PW X e t) : PT X e t := h _
def PA (X : Cx) (es : List Expr) (t : TA) : Prop :=
  ∀ (pos : Pos) (pins : List (Addr × Obj)) (s : Shared) (σ : St) (H : Hp) (Q : List V -> Hp -> Prop), Inv X pins σ H s -> t σ H Q -> wpAny (model X.prog X.w) X.A (spliced (backTo pos (starEach es X.env))) (AP X pins σ Q) X.xe s
def PS (X : Cx) (st : Stmt) (t : TS) : Prop :=
  ∀ (pins : List (Addr × Obj)) (s : Shared) (σ : St) (H : Hp) (D : Ends), Inv X pins σ H s -> t D σ H -> wpAny (model X.prog X.w) X.A (exec st X.env) (SP X pins D) X.xe s
def PSs (X : Cx) (st : List Stmt) (t : TS) : Prop :=
  ∀ (pins : List (Addr × Obj)) (s : Shared) (σ : St) (H : Hp) (D : Ends), Inv X pins σ H s -> t D σ H -> wpAny (model X.prog X.w) X.A (execs st X.env) (SP X pins D) X.xe s
theorem thn {α : Type} {t : Sem α} {Q Q' : α -> Shared -> Prop} {M : Model} {A : Around} {E : Value -> Shared -> Prop} {s : Shared} (h : wpAny M A t Q E s) (hQ : ∀ a s, Q a s -> Q' a s) : wpAny M A t Q' E s := wpAny_mono h hQ fun _ _ x => x
end L2
namespace L2
open PySem PySem.Spec PyProof.Rows
section
variable {X : Cx}
theorem bin {a b : Expr} {ta tb : TE} (ha : PE X a ta) (hb : PE X b tb) {pins : List (Addr × Obj)} {s : Shared} {σ : St} {H : Hp} {R : V -> V -> Hp -> Prop} (I : Inv X pins σ H s) (h : ta σ H fun x H1 => tb σ H1 fun y H2 => R x y H2)
    {α : Type} {Q : α -> Shared -> Prop} {f : Value -> Value -> Sem α}
    (hf : ∀ v u s2 x y H2, Inv X pins σ H2 s2 -> RelV x v -> RelV y u -> R x y H2 -> wpAny (model X.prog X.w) X.A (f v u) Q X.xe s2) :
    wpAny (model X.prog X.w) X.A (eval a X.env) (fun v s₁ => wpAny (model X.prog X.w) X.A (eval b X.env) (fun u s₂ => wpAny (model X.prog X.w) X.A (f v u) Q X.xe s₂) X.xe s₁) X.xe s := by
  refine thn (ha pins s σ H _ I h) fun v s1 ⟨x, H1, I1, r1, q1⟩ => ?_
  refine thn (hb pins s1 σ H1 _ I1 q1) fun u s2 ⟨y, H2, I2, r2, q2⟩ => ?_
  exact hf v u s2 x y H2 I2 r1 r2 q2
def tVar (i : Nat) : TE := fun σ H Q => ∃ v, σ[i]? = some (some v) /\ Q v H
def tC (v : V) : TE := fun _ H Q => Q v H
theorem pe_var {i : Nat} {x : Str} {pos : Pos} (hN : X.N[i]? = some x) (hv : Vis X.env.scope x) (hd : (x == ("__debug__" : Str)) = false := by decide) (hcd : (x == ("__classdict__" : Str)) = false := by decide) : PE X (.Name x pos) (tVar i) := by
  intro pins s σ H Q I h
  obtain ⟨v, e, h⟩ := h
  obtain ⟨m, hn, hl⟩ := I.loc
  obtain ⟨u, r, l⟩ := hl i x v hN e hv
  have fin : EP X pins σ Q u s := ⟨v, H, I, r, h⟩
  rcases l with ⟨hk, hm⟩ | ⟨hk, c, hc, hcell⟩
  · exact wpAny_Name (wpAny_loadName_local I.ok.kind hk hn hm fin) hd
  · rcases hk with hk | hk
    · exact wpAny_Name (wpAny_loadName_cell I.ok.kind hk hc hcell fin) hd
    · exact wpAny_Name (wpAny_loadName_free I.ok.kind hk hc hcell fin hcd) hd
theorem pe_int {i j pos} : PE X (.Constant (.int i) j pos) (tC (.int i)) := fun _ _ _ H _ I h => wpAny_Constant_int ⟨.int i, H, I.tok _, ⟨_, rfl⟩, h⟩
theorem pe_bl {b j pos} : PE X (.Constant (.bool b) j pos) (tC (.bl b)) := fun _ _ _ H _ I h => Constant_bool ⟨.bl b, H, I, rfl, h⟩
theorem pe_non {j pos} : PE X (.Constant .none j pos) (tC .non) := fun _ _ _ H _ I h => Constant_none ⟨.non, H, I, rfl, h⟩
theorem pe_str {x j pos} : PE X (.Constant (.str x) j pos) (tC (.str x)) := fun _ _ _ H _ I h => Calls.Constant_str ⟨.str x, H, I.tok _, ⟨_, rfl⟩, h⟩
def Gl (X : Cx) (x : Str) : Prop := X.env.kindOf x = some .globalImplicit
theorem ld_glob {E : Value -> Shared -> Prop} {pins : List (Addr × Obj)} {s : Shared} {σ : St} {H : Hp} {x : Str} {u : Value} {pos : Pos} {Q : Value -> Shared -> Prop} (I : Inv X pins σ H s) (hg : Gl X x) (hm : X.mg x = some u) (h : Q u s)
    (hd : (x == ("__debug__" : Str)) = false := by decide) : wpAny (model X.prog X.w) X.A (eval (.Name x pos) X.env) Q E s :=
  Calls.Name_function_global I.ok.kind hg (Calls.loadGlobal_global (by rw [I.ok.glob]; exact I.mod.glob.keeps I.bk) hm h) hd
theorem ld_blt {E : Value -> Shared -> Prop} {pins : List (Addr × Obj)} {s : Shared} {σ : St} {H : Hp} {x : Str} {u : Value} {pos : Pos} {Q : Value -> Shared -> Prop} (I : Inv X pins σ H s) (hg : Gl X x) (hm : X.mg x = none) (hv : bootBuiltins x = some u) (h : Q u s)
    (hn : x ≠ "__name__" := by decide) (hd : (x == ("__debug__" : Str)) = false := by decide) : wpAny (model X.prog X.w) X.A (eval (.Name x pos) X.env) Q E s := by
  obtain ⟨mb, h1, h2⟩ := I.mod.blt
  exact Calls.Name_function_global I.ok.kind hg (Calls.loadGlobal_builtin (by rw [I.ok.glob]; exact I.mod.glob.keeps I.bk) hm (by rw [I.ok.blt]; exact h1.keeps I.bk) ((h2 x hn).trans hv) h) hd
theorem pe_glob {x : Str} {v : V} {u : Value} {pos : Pos} (hg : Gl X x) (hm : X.mg x = some u) (r : RelV v u) (hd : (x == ("__debug__" : Str)) = false := by decide) : PE X (.Name x pos) (tC v) :=
  fun _ _ _ H _ I h => ld_glob I hg hm ⟨v, H, I, r, h⟩ hd
theorem pe_bltn {x : Str} {v : V} {u : Value} {pos : Pos} (hg : Gl X x) (hm : X.mg x = none) (hv : bootBuiltins x = some u) (r : RelV v u) (hn : x ≠ "__name__" := by decide) (hd : (x == ("__debug__" : Str)) = false := by decide) : PE X (.Name x pos) (tC v) :=
  fun _ _ _ H _ I h => ld_blt I hg hm hv ⟨v, H, I, r, h⟩ hn hd
variable {a b : Expr} {ta tb : TE} {pos : Pos}
variable {tA tB' : TT} {rest : List Expr}
def tAnd (t u : TT) : TT := fun σ H Q => t σ H fun c H1 => if c = true then u σ H1 Q else Q false H1
def tOr (t u : TT) : TT := fun σ H Q => t σ H fun c H1 => if c = true then Q true H1 else u σ H1 Q
def tNot (t : TT) : TT := fun σ H Q => t σ H fun c H1 => Q (!c) H1
theorem pw_and1 (ha : PT X a tA) : PW X (.BoolOp .And [a] pos) tA := by
  intro wh pins s σ H Q I h
  refine isTrue_and (thn (ha pins s σ H Q I h) fun c s1 e => ?_)
  cases c with
  | true => exact isTrue_and_nil e
  | false => exact e
theorem pw_or1 (ha : PT X a tA) : PW X (.BoolOp .Or [a] pos) tA := by
  intro wh pins s σ H Q I h
  refine isTrue_or (thn (ha pins s σ H Q I h) fun c s1 e => ?_)
  cases c with
  | false => exact isTrue_or_nil e
  | true => exact e
theorem pw_and (ha : PT X a tA) (hb : PW X (.BoolOp .And (b :: rest) pos) tB') : PW X (.BoolOp .And (a :: b :: rest) pos) (tAnd tA tB') := by
  intro wh pins s σ H Q I h
  refine isTrue_and (thn (ha pins s σ H _ I h) fun c s1 ⟨H1, I1, q1⟩ => ?_)
  cases c with
  | true => exact hb wh pins s1 σ H1 Q I1 q1
  | false => exact ⟨H1, I1, q1⟩
theorem pw_or (ha : PT X a tA) (hb : PW X (.BoolOp .Or (b :: rest) pos) tB') : PW X (.BoolOp .Or (a :: b :: rest) pos) (tOr tA tB') := by
  intro wh pins s σ H Q I h
  refine isTrue_or (thn (ha pins s σ H _ I h) fun c s1 ⟨H1, I1, q1⟩ => ?_)
  cases c with
  | true => exact ⟨H1, I1, q1⟩
  | false => exact hb wh pins s1 σ H1 Q I1 q1
theorem pt_not (ha : PT X a tA) : PT X (.UnaryOp .Not a pos) (tNot tA) := by
  intro pins s σ H Q I h
  exact isTrue_not (ha pins s σ H (fun c H1 => Q (!c) H1) I h)
theorem pe_one {op} {t : TE} (h : PE X a t) : PE X (.BoolOp op [a] pos) t := fun pins s σ H Q I hw => BoolOp_one (h pins s σ H Q I hw)
def tIf (t : TT) (ta tb : TE) : TE := fun σ H Q => t σ H fun c H1 => if c = true then ta σ H1 Q else tb σ H1 Q
theorem pe_ifExp {c : Expr} (hc : PT X c tA) (ha : PE X a ta) (hb : PE X b tb) : PE X (.IfExp c a b pos) (tIf tA ta tb) := by
  intro pins s σ H Q I h
  refine wpAny_IfExp (thn (hc pins s σ H _ I h) fun d s1 ⟨H1, I1, q1⟩ => ?_)
  cases d with
  | true => exact ha pins s1 σ H1 Q I1 q1
  | false => exact hb pins s1 σ H1 Q I1 q1
end
end L2
namespace L2
open PySem PySem.Spec PyProof.Rows
def SqL (K : PySem.W.Frag) (H : Hp) (a : Addr) (xs : List V) : Prop :=
  Rd H a (.lst xs) \/
    ∃ (o : Obj) (its : Array Value) (n : Nat), K.lookup a = some o /\ o.cls = .type "list" /\ o.dict = none /\ o.data = .seq its n /\ its.size <= sizeLine /\ Vals xs its.toList
def SqT (K : PySem.W.Frag) (H : Hp) (a : Addr) (xs : List V) : Prop :=
  Rd H a (.tup xs) \/
    ∃ (o : Obj) (its : Array Value) (n : Nat), K.lookup a = some o /\ o.cls = .type "tuple" /\ o.data = .seq its n /\ its.size <= sizeLine /\ Vals xs its.toList
def absV : Value -> Option V
  | .none => some .non
  | .bool b => some (.bl b)
  | .int i _ => some (.int i)
  | .str x _ => some (.str x)
  | .bytes b _ => some (.byt b)
  | .float b _ => some (.flt b)
  | .ref a => some (.ref a)
  | .type n => some (.ty n)
  | _ => none
theorem RelV.abs {x : V} {u : Value} (r : RelV x u) : absV u = some x := by
  cases x with
  | non => cases r; rfl
  | bl _ => cases r; rfl
  | int _ => obtain ⟨t, rfl⟩ := r; rfl
  | str _ => obtain ⟨t, rfl⟩ := r; rfl
  | byt _ => obtain ⟨t, rfl⟩ := r; rfl
  | flt _ => obtain ⟨t, rfl⟩ := r; rfl
  | ref _ => cases r; rfl
  | ty _ => cases r; rfl
theorem RelV.inj {x y : V} {u : Value} (r : RelV x u) (q : RelV y u) : x = y := Option.some.inj (r.abs.symm.trans q.abs)
theorem Vals.inj : ∀ {xs ys : List V} {us : List Value}, Vals xs us -> Vals ys us -> xs = ys
  | _, _, _, .nil, .nil => rfl
  | _, _, _, .cons r t, .cons r' t' => by rw [r.inj r', Vals.inj t t']
section
variable {X : Cx} {pins : List (Addr × Obj)} {σ : St} {H : Hp} {s : Shared} {a : Addr} {xs ys : List V}
theorem SqL.of {K : PySem.W.Frag} (h : H a = some (.lst xs)) : SqL K H a xs := .inl (.inl h)
theorem SqT.of {K : PySem.W.Frag} (h : H a = some (.tup xs)) : SqT K H a xs := .inl (.inl h)
theorem Inv.list (I : Inv X pins σ H s) (h : SqL X.K H a xs) : ∃ its : List Value, Vals xs its /\ PlainL s.heap a its.toArray /\ xs.length <= sizeLine := by
  rcases h with h | ⟨o, its, n, hk, hc, hd, hs, hz, r⟩
  · obtain ⟨z, its, n, r, e⟩ := h.ok I.hok
    exact ⟨its, r, ⟨_, n, e, rfl, rfl, rfl⟩, z⟩
  · refine ⟨its.toList, r, ⟨o, n, I.kIn a o hk, hc, hd, by simpa using hs⟩, ?_⟩
    have e := r.length
    simp only [Array.length_toList] at e
    omega
theorem Inv.tuple (I : Inv X pins σ H s) (h : SqT X.K H a xs) : ∃ its : List Value, Vals xs its /\ IsTup s.heap a its.toArray /\ xs.length <= sizeLine := by
  rcases h with h | ⟨o, its, n, hk, hc, hs, hz, r⟩
  · obtain ⟨z, its, r, p⟩ := h.ok I.hok
    exact ⟨its, r, p, z⟩
  · refine ⟨its.toList, r, ⟨o, I.kIn a o hk, hc, n, by simpa using hs⟩, ?_⟩
    have e := r.length
    simp only [Array.length_toList] at e
    omega
theorem Inv.list_inj (I : Inv X pins σ H s) (h : SqL X.K H a xs) (h' : SqL X.K H a ys) : xs = ys := by
  obtain ⟨its, r, ⟨o, n, e, _, _, d⟩, _⟩ := I.list h
  obtain ⟨its', r', ⟨o', n', e', _, _, d'⟩, _⟩ := I.list h'
  rw [e] at e'; cases e'
  rw [d] at d'
  injection d' with d1 _
  have : its = its' := by simpa using congrArg Array.toList d1
  subst this
  exact r.inj r'
theorem Inv.tuple_inj (I : Inv X pins σ H s) (h : SqT X.K H a xs) (h' : SqT X.K H a ys) : xs = ys := by
  obtain ⟨its, r, ⟨o, e, _, n, d⟩, _⟩ := I.tuple h
  obtain ⟨its', r', ⟨o', e', _, n', d'⟩, _⟩ := I.tuple h'
  rw [e] at e'; cases e'
  rw [d] at d'
  injection d' with d1 _
  have : its = its' := by simpa using congrArg Array.toList d1
  subst this
  exact r.inj r'
end
abbrev Cx.wish (X : Cx) (E : Value -> Shared -> Prop) : Cx := { X with xe := E }
abbrev Cx.nox (X : Cx) : Cx := X.wish fun _ _ => False
section
variable {X : Cx} {pins : List (Addr × Obj)} {σ : St} {H : Hp} {s : Shared} {E : Value -> Shared -> Prop}
end
section
variable {X : Cx} {st : Stmt} {rest : List Stmt} {t u : TS} {e : Expr} {te : TE} {pos : Pos}
def tNext : TS := fun D σ H => D.nx σ H
def tSeq (t u : TS) : TS := fun D σ H => t { D with nx := u D } σ H
theorem pss_nil : PSs X [] tNext := fun _ _ σ H _ I h => wpAny_execs_nil ⟨σ, H, I, h⟩
theorem pss_cons (h1 : PS X st t) (h2 : PSs X rest u) : PSs X (st :: rest) (tSeq t u) := by
  intro pins s σ H D I h
  refine wpAny_execs_cons (thn (h1 pins s σ H { D with nx := u D } I h) fun f s1 q => ?_)
  cases f with
  | next =>
    obtain ⟨σ', H', I', q⟩ := q
    exact h2 pins s1 σ' H' D I' q
  | ret v => exact q
  | brk => exact q
  | cont => exact q
theorem Inv.quiet {pins : List (Addr × Obj)} {σ : St} {H : Hp} {s : Shared} (I : Inv X pins σ H s) : interactive X.env = false := by simp [interactive, I.ok.kind]
def tDrop (te : TE) : TS := fun D σ H => te σ H fun _ H1 => D.nx σ H1
theorem ps_expr (he : PE X e te) (hs : swapsWith e none pos.line X.env = pure false := by rfl) : PS X (.Expr e pos) (tDrop te) := by
  intro pins s σ H D I h
  exact wpAny_Expr_any (thn (he pins s σ H _ I h) fun v s1 ⟨x, H1, I1, r1, q1⟩ => ⟨σ, H1, I1, q1⟩) I.quiet hs
def tRet (te : TE) : TS := fun D σ H => te σ H D.rt
theorem ps_ret (he : PE X e te) : PS X (.Return (some e) pos) (tRet te) := by
  intro pins s σ H D I h
  exact wpAny_Return_some (thn (he pins s σ H _ I h) fun v s1 ⟨x, H1, I1, r1, q1⟩ => ⟨x, σ, H1, I1, r1, q1⟩)
def tIfS (c : TT) (t u : TS) : TS := fun D σ H => c σ H fun b H1 => if b = true then t D σ H1 else u D σ H1
theorem ps_if {c : Expr} {a b : List Stmt} {tc : TT} (hc : PT X c tc) (ha : PSs X a t) (hb : PSs X b u) : PS X (.If c a b pos) (tIfS tc t u) := by
  intro pins s σ H D I h
  refine wpAny_If (thn (hc pins s σ H _ I h) fun d s1 ⟨H1, I1, q1⟩ => ?_)
  cases d with
  | true => exact ha pins s1 σ H1 D I1 q1
  | false => exact hb pins s1 σ H1 D I1 q1
end
abbrev TG := V -> St -> Hp -> (St -> Hp -> Prop) -> Prop
abbrev TGs := List V -> St -> Hp -> (St -> Hp -> Prop) -> Prop
def PG (X : Cx) (target : Expr) (t : TG) : Prop :=
  ∀ (pins : List (Addr × Obj)) (s : Shared) (σ : St) (H : Hp) (v : V) (u : Value) (Q : St -> Hp -> Prop), Inv X pins σ H s -> RelV v u -> t v σ H Q ->
    wpAny (model X.prog X.w) X.A (assign target X.env u) (fun _ s' => ∃ σ' H', Inv X pins σ' H' s' /\ Q σ' H') X.xe s
def PGs (X : Cx) (ts : List Expr) (t : TGs) : Prop :=
  ∀ (pins : List (Addr × Obj)) (s : Shared) (σ : St) (H : Hp) (vs : List V) (us : List Value) (Q : St -> Hp -> Prop), Inv X pins σ H s -> Vals vs us -> t vs σ H Q ->
    wpAny (model X.prog X.w) X.A (assignInOrder ((assignEach ts X.env).map (·.2)) us) (fun _ s' => ∃ σ' H', Inv X pins σ' H' s' /\ Q σ' H') X.xe s
section
variable {X : Cx} {pos : Pos}
def gName (i : Nat) : TG := fun v σ H Q => Q (σ.set i (some v)) H
theorem pg_name {i : Nat} {x : Str} (hN : X.N.Nodup) (hi : X.N[i]? = some x) (hx : Loc X.env.scope x) (hf : X.fn x = true \/ X.env.scope.names.lookup x = some .local := by first | exact .inl rfl | exact .inr rfl | assumption) : PG X (.Name x pos) (gName i) := by
  intro pins s σ H v u Q I r h
  exact wpAny_assign_Name (store_ok I hN hi hx r (fun s' I' => ⟨_, H, I', h⟩) hf)
def gNil : TGs := fun vs σ H Q => vs = [] /\ Q σ H
def gCons (t : TG) (u : TGs) : TGs := fun vs σ H Q => ∃ v r, vs = v :: r /\ t v σ H fun σ' H' => u r σ' H' Q
theorem pgs_nil : PGs X [] gNil := by
  intro pins s σ H vs us Q I r h
  obtain ⟨e, h⟩ := h
  subst e
  cases r
  exact assignInOrder_nil ⟨σ, H, I, h⟩
theorem pgs_cons {e : Expr} {es : List Expr} {t : TG} {u : TGs} (h1 : PG X e t) (h2 : PGs X es u)
    (hs : (assignEach (e :: es) X.env).map (·.2) = assign e X.env :: (assignEach es X.env).map (·.2) := by rfl) : PGs X (e :: es) (gCons t u) := by
  intro pins s σ H vs us Q I r h
  obtain ⟨v, vr, e1, h⟩ := h
  subst e1
  cases r with
  | cons r rr =>
    rw [hs]
    refine assignInOrder_cons (thn (h1 pins s σ H _ _ _ I r h) fun _ s1 ⟨σ1, H1, I1, q1⟩ => ?_)
    exact h2 pins s1 σ1 H1 _ _ Q I1 rr q1
def gTup (K : PySem.W.Frag) (n : Nat) (t : TGs) : TG := fun v σ H Q => ∃ a xs, v = .ref a /\ SqT K H a xs /\ xs.length = n /\ t xs σ H Q
theorem pg_tup {es : List Expr} {k : Nat} {t : TGs} {n : Nat} (hc : X.calm = true) (h : PGs X es t)
    (hn : (assignEach es X.env).length = n := by rfl) (hst : (assignEach es X.env).findIdx? (·.1) = none := by rfl) : PG X (.Tuple es k pos) (gTup X.K n t) := by
  intro pins s σ H v u Q I r hw
  obtain ⟨a, xs, e1, hq, hl, hw⟩ := hw
  subst e1
  cases r
  obtain ⟨its, rv, ht, hz⟩ := I.tuple hq
  refine assign_Tuple_tuple (I.ok.hd hc) ht (by simp [hn, <- hl, rv.length]) hst fun h' hx => ?_
  have I1 : Inv X pins σ H { s with heap := h' } := I.kept (t' := s.toks) fun b o e => hx b o (Nat.ne_of_lt (Heap.lt_size e)) e
  exact h pins _ σ H xs _ Q I1 (by simpa using rv) hw
def tAsg (te : TE) (g : TG) : TS := fun D σ H => te σ H fun x H1 => g x σ H1 D.nx
theorem ps_asg {tg e : Expr} {te : TE} {g : TG} (he : PE X e te) (hg : PG X tg g) (hs : swapsWithSole [tg] e pos.line X.env = pure false := by rfl) (hw : swappedStores [tg] e X.env = pure none := by rfl)
    (h1 : (assignEach [tg] X.env).map (·.2) = [assign tg X.env] := by rfl) : PS X (.Assign [tg] e pos) (tAsg te g) := by
  intro pins s σ H D I h
  refine wpAny_Assign_stores (thn (he pins s σ H _ I h) fun v s1 ⟨x, H1, I1, r1, q1⟩ => ?_) hs hw
  rw [h1]
  exact thn (hg pins s1 σ H1 x v _ I1 r1 q1) fun _ s2 q => q
theorem ps_set {i : Nat} {x : Str} {e : Expr} {te : TE} {pos' : Pos} (hN : X.N.Nodup) (hi : X.N[i]? = some x) (hx : Loc X.env.scope x) (he : PE X e te) (hs : swapsWith e (some (.Name x pos')) pos.line X.env = pure false := by rfl) (hf : X.fn x = true \/ X.env.scope.names.lookup x = some .local := by first | exact .inl rfl | exact .inr rfl | assumption) :
    PS X (.Assign [.Name x pos'] e pos) (tAsg te (gName i)) := by
  intro pins s σ H D I h
  refine wpAny_Assign_Name (thn (he pins s σ H _ I h) fun v s1 ⟨y, H1, I1, r1, q1⟩ => ?_) hs
  exact store_ok I1 hN hi hx r1 (fun s2 I2 => ⟨_, H1, I2, q1⟩) hf
end
section
variable {X : Cx} {pos : Pos}
def tWhile (c : TT) (tb : TS) : TS := fun D σ H => ∃ W : Nat -> St -> Hp -> Prop, (∃ m, W m σ H) /\ ∀ m σ H, W m σ H ->
  c σ H fun b H1 => if b = true then ∃ N : St -> Hp -> Prop, (∀ σ' H', N σ' H' -> ∃ m', m' < m /\ W m' σ' H') /\ tb { D with nx := N, ct := N, bk := D.nx } σ H1 else D.nx σ H1
theorem ps_while {c : Expr} {body : List Stmt} {tc : TT} {tb : TS} (hp : PassesOwn (model X.prog X.w) X.A X.env X.xe) (hc : PT X c tc) (hb : PSs X body tb) : PS X (.While c body [] pos) (tWhile tc tb) := by
  intro pins s σ H D I h
  obtain ⟨W, ⟨m0, w0⟩, turn⟩ := h
  refine wpAny_While (codeAny_whileLoop (fun n s' => ∃ σ' H', Inv X pins σ' H' s' /\ W n σ' H') ?_ m0 ⟨σ, H, I, w0⟩)
  rintro n s1 ⟨σ1, H1, I1, w1⟩
  refine wpAny_passesOwn hp (thn (hc pins s1 σ1 H1 _ I1 (turn n σ1 H1 w1)) fun b s2 ⟨H2, I2, q2⟩ => ?_)
  cases b with
  | true =>
    obtain ⟨N, hN, q2⟩ := q2
    rw [if_pos rfl]
    refine wpAny_passesOwn hp (thn (hb pins s2 σ1 H2 _ I2 q2) fun f s3 q3 => ?_)
    cases f with
    | next =>
      obtain ⟨σ3, H3, I3, n3⟩ := q3
      obtain ⟨m', hm, w3⟩ := hN σ3 H3 n3
      exact ⟨m', hm, σ3, H3, I3, w3⟩
    | cont =>
      obtain ⟨σ3, H3, I3, n3⟩ := q3
      obtain ⟨m', hm, w3⟩ := hN σ3 H3 n3
      exact ⟨m', hm, σ3, H3, I3, w3⟩
    | brk => exact q3
    | ret v => exact q3
  | false =>
    rw [if_neg Bool.false_ne_true]
    exact wpAny_execs_nil ⟨σ1, H2, I2, q2⟩
end
structure It where
  go : Nat -> Hp -> Prop
  yld : Nat -> Hp -> V -> Hp -> Prop
  stop : Nat -> Hp -> Prop
def FpOk (X : Cx) (pins : List (Addr × Obj)) (H : Hp) (b : Addr) : Prop :=
  H b = none /\ b ≠ X.env.locals /\ b ∉ X.fs /\ (b ∈ X.ex \/ X.s₀.heap.objs.size <= b) /\ (∀ x c, X.env.cells.lookup x = some c -> c ≠ b) /\ ∀ p ∈ X.pn ++ pins, p.1 ≠ b
theorem Inv.fpOk {X : Cx} {pins : List (Addr × Obj)} {σ : St} {H H' : Hp} {s : Shared} {b : Addr} (I : Inv X pins σ H s) (hb : s.heap.objs.size <= b) (hn : H' b = none) : FpOk X pins H' b := by
  refine ⟨hn, Nat.ne_of_gt (Nat.lt_of_lt_of_le I.lt hb), I.nofs hb, .inr (Nat.le_trans I.sz hb), fun x c e z => ?_, fun p hp z => ?_⟩
  · obtain ⟨v, q⟩ := I.cell x c e
    exact absurd (Nat.lt_of_lt_of_le q.lt (by rw [z]; exact hb)) (Nat.lt_irrefl _)
  · exact absurd (Nat.lt_of_lt_of_le (Heap.lt_size (I.pin p hp).1) (by rw [z]; exact hb)) (Nat.lt_irrefl _)
structure Turn (P : Program) (w : World) (K : PySem.W.Frag) (tg : Expr) (J : It) (fp : List Addr) (it : Addr) (tn : Nat -> Heap -> Prop) : Prop where
  mem : it ∈ fp
  obj : ∀ i h, tn i h -> ∀ b ∈ fp, ∃ o, h.get? b = some o /\ ∀ v, o.data ≠ .cell v
  keep : ∀ i h h', tn i h -> (∀ b ∈ fp, ∀ o, h.get? b = some o -> h'.get? b = some o) -> tn i h'
  item : ∀ (X : Cx), X.prog = P -> X.w = w -> X.K = K -> X.calm = true -> ∀ (i : Nat) (pins : List (Addr × Obj)) (s : Shared) (σ : St) (H : Hp) (E : Value -> Shared -> Prop), Inv X pins σ H s -> (∀ b ∈ fp, FpOk X pins H b) -> tn i s.heap -> J.go i H ->
    wpAny (model P w) X.A (pyNext (.ref it)) (fun r s1 => ∃ u, r = some u /\
      wpAny (model P w) X.A (letOwnedTupleGo tg (.ref it) u) (fun _ s2 => ∃ x H', Inv X pins σ H' s2 /\ RelV x u /\ J.yld i H x H' /\ tn (i + 1) s2.heap /\ ∀ b ∈ fp, H' b = none) E s1) E s
  done : ∀ (X : Cx), X.prog = P -> X.w = w -> X.K = K -> X.calm = true -> ∀ (i : Nat) (pins : List (Addr × Obj)) (s : Shared) (σ : St) (H : Hp) (E : Value -> Shared -> Prop), Inv X pins σ H s -> (∀ b ∈ fp, FpOk X pins H b) -> tn i s.heap -> J.stop i H ->
    wpAny (model P w) X.A (pyNext (.ref it)) (fun r s1 => r = none /\ Inv X pins σ H s1) E s
  self : ∀ (A : Around) (i : Nat) (s : Shared) (Q : Value -> Shared -> Prop) (E : Value -> Shared -> Prop), tn i s.heap -> Q (.ref it) s -> wpAny (model P w) A (pyIter (.ref it)) Q E s
abbrev TI := St -> Hp -> (It -> Hp -> Prop) -> Prop
def PIE (X : Cx) (pins : List (Addr × Obj)) (σ : St) (tg : Expr) (R : It -> Hp -> Prop) (itv : Value) (s2 : Shared) : Prop :=
  ∃ (it : Addr) (fp : List Addr) (tn : Nat -> Heap -> Prop) (J : It) (H' : Hp), itv = .ref it /\ Inv X pins σ H' s2 /\ Turn X.prog X.w X.K tg J fp it tn /\ tn 0 s2.heap /\ (∀ b ∈ fp, FpOk X pins H' b) /\ R J H'
def PI (X : Cx) (tg iter : Expr) (wi : TI) : Prop :=
  ∀ (pins : List (Addr × Obj)) (s : Shared) (σ : St) (H : Hp) (R : It -> Hp -> Prop), Inv X pins σ H s -> wi σ H R ->
    wpAny (model X.prog X.w) X.A (eval iter X.env) (fun v s1 => wpAny (model X.prog X.w) X.A (pyIter v) (PIE X pins σ tg R) X.xe s1) X.xe s
theorem go_of {M : Model} {A : Around} {E : Value -> Shared -> Prop} {s : Shared} {tg : Expr} {it : Addr} {u : Value} {o : Obj} {n : String} {vs : Array Value} {Q : Unit -> Shared -> Prop} (ho : s.heap.get? it = some o) (hc : o.cls = .type n) (hd : o.data = .fields vs)
    (hn : ["enumerate", "zip", "dict_itemiterator", "dict_reverseitemiterator", "odict_iterator", "itertools.zip_longest", "itertools.pairwise"].contains n = false) (hQ : Q () s) : wpAny M A (letOwnedTupleGo tg (.ref it) u) Q E s := by
  unfold letOwnedTupleGo
  cases tg <;> first
    | exact wpAny_pure hQ
    | (cases u <;> first
        | exact wpAny_pure hQ
        | (refine wpAny_bind (wpAny_load ho ?_)
           rw [hc, hd]
           show wpAny M A (if (["enumerate", "zip", "dict_itemiterator", "dict_reverseitemiterator", "odict_iterator", "itertools.zip_longest", "itertools.pairwise"].contains n && vs[0]? == some (rawInt _)) = true then _ else _) Q E s
           rw [if_neg (by intro h; rw [hn, Bool.false_and] at h; cases h)]
           exact wpAny_pure hQ))
def Itl (K : PySem.W.Frag) (a : Addr) : It :=
  ⟨fun i H => ∃ xs x, SqL K H a xs /\ xs[i]? = some x, fun i H x H' => H' = H /\ ∀ xs, SqL K H a xs -> xs[i]? = some x, fun i H => ∃ xs, SqL K H a xs /\ xs.length <= i⟩
def Itt (K : PySem.W.Frag) (a : Addr) : It :=
  ⟨fun i H => ∃ xs x, SqT K H a xs /\ xs[i]? = some x, fun i H x H' => H' = H /\ ∀ xs, SqT K H a xs -> xs[i]? = some x, fun i H => ∃ xs, SqT K H a xs /\ xs.length <= i⟩
def Itr (lo : Int) (n : Nat) : It := ⟨fun i _ => i < n, fun i H x H' => H' = H /\ x = .int (lo + i), fun i _ => n <= i⟩
theorem turn_list {P : Program} {w : World} {K : PySem.W.Frag} {tg : Expr} (a it : Addr) : Turn P w K tg (Itl K a) [it] it (fun i h => h.IsListIter it a i) where
  mem := by simp
  obj := fun i h st b hb => by
    have e : b = it := by simpa using hb
    subst e
    obtain ⟨o, e, c, d⟩ := st
    exact ⟨o, e, fun v z => by rw [d] at z; cases z⟩
  keep := fun i h h' st k => st.at fun o e => k it (by simp) o e
  item := by
    intro X hP hw hK hc i pins s σ H E I hf st hg
    subst hP hw hK
    obtain ⟨xs, x, hq, hx⟩ := hg
    obtain ⟨its, rv, p, hz⟩ := I.list hq
    obtain ⟨u, hu, ru⟩ := rv.get hx
    obtain ⟨f0, f1, f2, f3, f4, f5⟩ := hf it (by simp)
    refine wpAny_pyNext_list_item st p.isList (x := u) (by simpa using hu) fun h' st' sb => ?_
    have I1 : Inv X pins σ H { s with heap := h' } := I.turned (t' := s.toks) (fun b o hb e => (sb.2 b hb).trans e) f0 f1 f3 f4 f5
    obtain ⟨o, e, c, d⟩ := id st'
    exact ⟨u, rfl, go_of (s := { s with heap := h' }) e c d (by decide) ⟨x, H, I1, ru, ⟨rfl, fun ys hy => by rw [I.list_inj hy hq]; exact hx⟩, st', fun b hb => (hf b hb).1⟩⟩
  done := by
    intro X hP hw hK hc i pins s σ H E I hf st hg
    subst hP hw hK
    obtain ⟨xs, hq, hx⟩ := hg
    obtain ⟨its, rv, p, hz⟩ := I.list hq
    obtain ⟨f0, f1, f2, f3, f4, f5⟩ := hf it (by simp)
    have hl := rv.length
    exact wpAny_pyNext_list_end (I.ok.hd hc) st p.isList (by simp; omega) fun h' eb => ⟨rfl, I.turned (t' := s.toks) (fun b o hb e => eb b o hb e) f0 f1 f3 f4 f5⟩
  self := fun _ _ _ _ _ st h => wpAny_pyIter_listiter st h
theorem turn_tuple {P : Program} {w : World} {K : PySem.W.Frag} {tg : Expr} (a it : Addr) : Turn P w K tg (Itt K a) [it] it (fun i h => h.IsTupleIter it a i) where
  mem := by simp
  obj := fun i h st b hb => by
    have e : b = it := by simpa using hb
    subst e
    obtain ⟨o, e, c, d⟩ := st
    exact ⟨o, e, fun v z => by rw [d] at z; cases z⟩
  keep := fun i h h' st k => st.at fun o e => k it (by simp) o e
  item := by
    intro X hP hw hK hc i pins s σ H E I hf st hg
    subst hP hw hK
    obtain ⟨xs, x, hq, hx⟩ := hg
    obtain ⟨its, rv, p, hz⟩ := I.tuple hq
    obtain ⟨u, hu, ru⟩ := rv.get hx
    obtain ⟨f0, f1, f2, f3, f4, f5⟩ := hf it (by simp)
    refine wpAny_pyNext_tuple_item st (show s.heap.IsTuple a its.toArray from p) (x := u) (by simpa using hu) fun h' st' sb => ?_
    have I1 : Inv X pins σ H { s with heap := h' } := I.turned (t' := s.toks) (fun b o hb e => (sb.2 b hb).trans e) f0 f1 f3 f4 f5
    obtain ⟨o, e, c, d⟩ := id st'
    exact ⟨u, rfl, go_of (s := { s with heap := h' }) e c d (by decide) ⟨x, H, I1, ru, ⟨rfl, fun ys hy => by rw [I.tuple_inj hy hq]; exact hx⟩, st', fun b hb => (hf b hb).1⟩⟩
  done := by
    intro X hP hw hK hc i pins s σ H E I hf st hg
    subst hP hw hK
    obtain ⟨xs, hq, hx⟩ := hg
    obtain ⟨its, rv, p, hz⟩ := I.tuple hq
    obtain ⟨f0, f1, f2, f3, f4, f5⟩ := hf it (by simp)
    have hl := rv.length
    exact wpAny_pyNext_tuple_end (I.ok.hd hc) st (show s.heap.IsTuple a its.toArray from p) (by simp; omega) fun h' eb => ⟨rfl, I.turned (t' := s.toks) (fun b o hb e => eb b o hb e) f0 f1 f3 f4 f5⟩
  self := fun _ _ _ _ _ st h => wpAny_pyIter_tupleiter st h
theorem turn_range {P : Program} {w : World} {K : PySem.W.Frag} {tg : Expr} (it : Addr) (lo : Int) (n : Nat) : Turn P w K tg (Itr lo n) [it] it (fun i h => IsRangeIter h it (lo + (i : Nat) * 1) ((n : Int) - (i : Nat)) 1) where
  mem := by simp
  obj := fun i h st b hb => by
    have e : b = it := by simpa using hb
    subst e
    exact ⟨_, st, fun v z => by
      have z' : Data.fields _ = Data.cell v := z
      cases z'⟩
  keep := fun i h h' st k => k it (by simp) _ st
  item := by
    intro X hP hw hK hc i pins s σ H E I hf st hg
    subst hP hw hK
    obtain ⟨f0, f1, f2, f3, f4, f5⟩ := hf it (by simp)
    have W := Walks.range (prog := X.prog) (w := X.w) (I.ok.hd hc) it lo 1 n
    refine W.item i s _ _ hg st fun v h' tk hv st' kk => ?_
    obtain ⟨t, rfl⟩ := hv
    have I1 : Inv X pins σ H { s with heap := h', toks := tk } := I.turned (fun b o hb e => kk b o (by simpa using hb) e) f0 f1 f3 f4 f5
    refine ⟨_, rfl, go_of (s := { s with heap := h', toks := tk }) (n := "range_iterator") st' rfl rfl (by decide) ⟨.int (lo + i), H, I1, ⟨t, ?_⟩, ⟨rfl, rfl⟩, st', fun b hb => (hf b hb).1⟩⟩
    rw [Int.mul_one]
  done := by
    intro X hP hw hK hc i pins s σ H E I hf st hg
    subst hP hw hK
    obtain ⟨f0, f1, f2, f3, f4, f5⟩ := hf it (by simp)
    exact wpAny_pyNext_range_end (I.ok.hd hc) st (by have : n <= i := hg; omega) fun h' eb => ⟨rfl, I.turned (t' := s.toks) (fun b o hb e => eb b o hb e) f0 f1 f3 f4 f5⟩
  self := fun _ _ _ _ _ st h => wpAny_pyIter_rangeiter st h
end L2
namespace L2
open PySem PySem.Spec PyProof.Rows
section
variable {X : Cx} {tg : Expr}
def iList (K : PySem.W.Frag) (tl : TE) : TI := fun σ H R => tl σ H fun x H1 => ∃ a, x = .ref a /\ (∃ xs, SqL K H1 a xs) /\ R (Itl K a) H1
def iTup (K : PySem.W.Frag) (tl : TE) : TI := fun σ H R => tl σ H fun x H1 => ∃ a, x = .ref a /\ (∃ xs, SqT K H1 a xs) /\ R (Itt K a) H1
theorem pi_list {l : Expr} {tl : TE} (hl : PE X l tl) : PI X tg l (iList X.K tl) := by
  intro pins s σ H R I h
  refine thn (hl pins s σ H _ I h) fun v s1 ⟨x, H1, I1, r1, q1⟩ => ?_
  obtain ⟨a, e, ⟨xs, hq⟩, q⟩ := q1
  subst e
  cases r1
  obtain ⟨its, rv, p, hz⟩ := I1.list hq
  refine wpAny_pyIter_list p.isList ?_
  refine ⟨s1.heap.objs.size, [s1.heap.objs.size], _, _, H1, rfl, I1.kept (t' := s1.toks) fun b o e => Heap.get?_push_of_some _ e, turn_list a _, ⟨_, Heap.get?_push_size _ rfl, rfl, rfl⟩, fun b hb => ?_, q⟩
  have e : b = s1.heap.objs.size := by simpa using hb
  subst e
  exact I1.fpOk (Nat.le_refl _) (I1.hok.fresh (Nat.le_refl _))
theorem pi_tup {l : Expr} {tl : TE} (hl : PE X l tl) : PI X tg l (iTup X.K tl) := by
  intro pins s σ H R I h
  refine thn (hl pins s σ H _ I h) fun v s1 ⟨x, H1, I1, r1, q1⟩ => ?_
  obtain ⟨a, e, ⟨xs, hq⟩, q⟩ := q1
  subst e
  cases r1
  obtain ⟨its, rv, p, hz⟩ := I1.tuple hq
  refine wpAny_pyIter_tuple (show s1.heap.IsTuple a its.toArray from p) ?_
  refine ⟨s1.heap.objs.size, [s1.heap.objs.size], _, _, H1, rfl, I1.kept (t' := s1.toks) fun b o e => Heap.get?_push_of_some _ e, turn_tuple a _, ⟨_, Heap.get?_push_size _ rfl, rfl, rfl⟩, fun b hb => ?_, q⟩
  have e : b = s1.heap.objs.size := by simpa using hb
  subst e
  exact I1.fpOk (Nat.le_refl _) (I1.hok.fresh (Nat.le_refl _))
theorem range_it {pins : List (Addr × Obj)} {σ : St} {H : Hp} {s : Shared} {R : It -> Hp -> Prop} {E : Value -> Shared -> Prop} {lo hi : Int} {t u v : Tok} {tk : Nat} (I : Inv X pins σ H s) (h1 : -(2 ^ 62) <= lo) (h2 : lo < 2 ^ 62) (h3 : -(2 ^ 62) <= hi) (h4 : hi < 2 ^ 62)
    (q : R (Itr lo (hi - lo).toNat) H) : wpAny (model X.prog X.w) X.A (pyIter (.ref s.heap.objs.size)) (PIE X pins σ tg R) E { s with heap := s.heap.push { cls := .type "range", data := .fields #[.int lo t, .int hi u, .int 1 v] }, toks := tk } := by
  refine wpAny_pyIter_range (IsRange.new ..) (small_one h1 h2 h3 h4) ?_
  have I1 : Inv X pins σ H { s with heap := s.heap.push { cls := .type "range", data := .fields #[.int lo t, .int hi u, .int 1 v] }, toks := tk } := I.kept fun b o e => Heap.get?_push_of_some _ e
  refine ⟨(s.heap.push { cls := .type "range", data := .fields #[.int lo t, .int hi u, .int 1 v] }).objs.size, [(s.heap.push { cls := .type "range", data := .fields #[.int lo t, .int hi u, .int 1 v] }).objs.size], _, _, H, rfl,
    I1.kept (t' := tk) fun b o e => Heap.get?_push_of_some _ e, turn_range _ lo (hi - lo).toNat, ?_, fun b hb => ?_, q⟩
  · have e1 : lo + ((0 : Nat) : Int) * 1 = lo := by simp
    have e2 : (((hi - lo).toNat : Nat) : Int) - ((0 : Nat) : Int) = Builtin.Range.rangeSize lo hi 1 := by rw [rangeSize_one]; split <;> omega
    show IsRangeIter _ _ (lo + ((0 : Nat) : Int) * 1) ((((hi - lo).toNat : Nat) : Int) - ((0 : Nat) : Int)) 1
    rw [e1, e2]
    exact Heap.get?_push_size _ rfl
  · have e : b = (s.heap.push { cls := .type "range", data := .fields #[.int lo t, .int hi u, .int 1 v] }).objs.size := by simpa using hb
    subst e
    exact I1.fpOk (Nat.le_refl _) (I1.hok.fresh (Nat.le_refl _))
def iRng1 (ta : TA) : TI := fun σ H R => ta σ H fun vs H1 => ∃ j : Int, vs = [.int j] /\ -(2 ^ 62) <= j /\ j < 2 ^ 62 /\ R (Itr 0 j.toNat) H1
def iRng2 (ta : TA) : TI := fun σ H R => ta σ H fun vs H1 => ∃ i j : Int, vs = [.int i, .int j] /\ (-(2 ^ 62) <= i /\ i < 2 ^ 62 /\ -(2 ^ 62) <= j /\ j < 2 ^ 62) /\ R (Itr i (j - i).toNat) H1
theorem pi_range1 {a : Expr} {ta : TA} {p pos : Pos} (hg : Gl X "range") (hm : X.mg "range" = none) (ha : PA X [a] ta) (hs : starEach [a] X.env = [(false, eval a X.env)] := by rfl) : PI X tg (.Call (.Name "range" p) [a] [] pos) (iRng1 ta) := by
  intro pins s σ H R I h
  refine Call_ (ld_blt I hg hm boot_range (PyProof.Rows.callWith_type1 (thn (ha pos pins s σ H _ I h) fun us s1 ⟨vs, H1, I1, r1, q1⟩ => ?_) hs rfl))
  obtain ⟨j, e, q1, q2, q⟩ := q1
  subst e
  cases r1 with
  | cons r rr =>
    cases rr
    obtain ⟨t, rfl⟩ := r
    exact call_range_1 (range_it I1 (by omega) (by omega) q1 q2 (by simpa using q))
theorem pi_range2 {a b : Expr} {ta : TA} {p pos : Pos} (hg : Gl X "range") (hm : X.mg "range" = none) (ha : PA X [a, b] ta) (hs : starEach [a, b] X.env = [(false, eval a X.env), (false, eval b X.env)] := by rfl) (hs2 : starEach [b] X.env = [(false, eval b X.env)] := by rfl) :
    PI X tg (.Call (.Name "range" p) [a, b] [] pos) (iRng2 ta) := by
  intro pins s σ H R I h
  refine Call_ (ld_blt I hg hm boot_range (PyProof.Rows.callWith_type1 (thn (ha pos pins s σ H _ I h) fun us s1 ⟨vs, H1, I1, r1, q1⟩ => ?_) (by rw [hs, hs2]) (by rw [hs2]; rfl)))
  obtain ⟨i, j, e, ⟨q1, q2, q3, q4⟩, q⟩ := q1
  subst e
  cases r1 with
  | cons r rr =>
    cases rr with
    | cons r' rr =>
      cases rr
      obtain ⟨t, rfl⟩ := r
      obtain ⟨t', rfl⟩ := r'
      exact call_range_2 (range_it I1 q1 q2 q3 q4 q)
def tFor (wi : TI) (g : TG) (tb : TS) : TS := fun D σ H => wi σ H fun J H1 => ∃ W : Nat -> Nat -> St -> Hp -> Prop, (∃ m, W 0 m σ H1) /\ ∀ i m σ H, W i m σ H ->
  (J.stop i H /\ D.nx σ H) \/ (J.go i H /\ ∃ N : St -> Hp -> Prop, (∀ σ' H', N σ' H' -> ∃ m', m' < m /\ W (i + 1) m' σ' H') /\ ∀ x H', J.yld i H x H' -> g x σ H' fun σ2 H2 => tb { D with nx := N, ct := N, bk := D.nx } σ2 H2)
def pinsAt (fp : List Addr) (h : Heap) : List (Addr × Obj) := fp.filterMap fun b => (h.get? b).map fun o => (b, o)
theorem mem_pinsAt {fp : List Addr} {h : Heap} {b : Addr} {o : Obj} (hb : b ∈ fp) (e : h.get? b = some o) : (b, o) ∈ pinsAt fp h := List.mem_filterMap.mpr ⟨b, hb, by rw [e]; rfl⟩
theorem of_pinsAt {fp : List Addr} {h : Heap} {p : Addr × Obj} (hp : p ∈ pinsAt fp h) : p.1 ∈ fp /\ h.get? p.1 = some p.2 := by
  obtain ⟨b, hb, e⟩ := List.mem_filterMap.mp hp
  cases q : h.get? b with
  | none => rw [q] at e; cases e
  | some o =>
    rw [q] at e
    have e' : (b, o) = p := Option.some.inj e
    subst e'
    exact ⟨hb, q⟩
theorem Inv.pinned {pins : List (Addr × Obj)} {σ : St} {H : Hp} {s : Shared} {fp : List Addr} (I : Inv X pins σ H s) (hf : ∀ b ∈ fp, FpOk X pins H b) (ho : ∀ b ∈ fp, ∃ o, s.heap.get? b = some o /\ ∀ v, o.data ≠ .cell v) : Inv X (pins ++ pinsAt fp s.heap) σ H s :=
  I.pins_of fun p hp => (List.mem_append.mp hp).elim (fun z => I.pin p (List.mem_append_right _ z)) fun z => by
    obtain ⟨hb, e⟩ := of_pinsAt z
    obtain ⟨f0, f1, f2, _⟩ := hf p.1 hb
    obtain ⟨o, e', d⟩ := ho p.1 hb
    rw [e] at e'; cases e'
    exact ⟨e, f0, f1, f2, d⟩
theorem Inv.unpinned {pins pl : List (Addr × Obj)} {σ : St} {H : Hp} {s : Shared} (I : Inv X (pins ++ pl) σ H s) : Inv X pins σ H s := I.pins_of fun p hp => I.pin p (List.mem_append_right _ (List.mem_append_left _ hp))
theorem ps_for {iter : Expr} {body : List Stmt} {wi : TI} {g : TG} {tb : TS} {pos : Pos} (hp : PassesOwn (model X.prog X.w) X.A X.env X.xe) (hc : X.calm = true) (hi : PI X tg iter wi) (hg : PG X tg g) (hb : PSs X body tb)
    (hs : ∀ x, foldedSetIterable iter X.env x = pure x := by intro _; rfl) : PS X (.For tg iter body [] pos) (tFor wi g tb) := by
  intro pins s σ H D I h
  refine wpAny_For (thn (hi pins s σ H _ I h) fun v s1 h1 => thn h1 fun itv s2 h2 => ?_) hs
  obtain ⟨it, fp, tn, J, H2, e, I2, T, st2, f2, W, ⟨m0, w0⟩, turn⟩ := h2
  subst e
  have stat : ∀ {H' : Hp}, (∀ b ∈ fp, H' b = none) -> ∀ b ∈ fp, FpOk X pins H' b := fun hn b hb => ⟨hn b hb, (f2 b hb).2⟩
  refine codeAny_forLoop_any (fun n s' => ∃ i σ' H', Inv X pins σ' H' s' /\ tn i s'.heap /\ (∀ b ∈ fp, H' b = none) /\ W i n σ' H') ?_ m0 ⟨0, σ, H2, I2, st2, fun b hb => (f2 b hb).1, w0⟩
  rintro n s3 ⟨i, σ3, H3, I3, st3, fr3, w3⟩
  rcases turn i n σ3 H3 w3 with ⟨stop, qn⟩ | ⟨go, N, hN, step⟩
  · refine wpAny_passesOwn hp (thn (T.done X rfl rfl rfl hc i pins s3 σ3 H3 X.xe I3 (stat fr3) st3 stop) fun r s4 ⟨hr, I4⟩ => ?_)
    subst hr
    exact wpAny_execs_nil ⟨σ3, H3, I4, qn⟩
  · refine wpAny_passesOwn hp (thn (T.item X rfl rfl rfl hc i pins s3 σ3 H3 X.xe I3 (stat fr3) st3 go) fun r s4 ⟨u, hr, h4⟩ => ?_)
    subst hr
    refine wpAny_passesOwn hp (thn h4 fun _ s5 ⟨x, H5, I5, r5, y5, st5, fr5⟩ => ?_)
    have I5' := I5.pinned (stat fr5) (T.obj _ _ st5)
    refine wpAny_passesOwn hp (thn (hg _ s5 σ3 H5 x u _ I5' r5 (step x H5 y5)) fun _ s6 ⟨σ6, H6, I6, q6⟩ => ?_)
    refine wpAny_passesOwn hp (thn (hb _ s6 σ6 H6 _ I6 q6) fun f s7 q7 => ?_)
    have again : ∀ {σ7 : St} {H7 : Hp}, Inv X (pins ++ pinsAt fp s5.heap) σ7 H7 s7 -> N σ7 H7 -> ∃ m, m < n /\ ∃ i σ' H', Inv X pins σ' H' s7 /\ tn i s7.heap /\ (∀ b ∈ fp, H' b = none) /\ W i m σ' H' := fun {σ7 H7} I7 n7 => by
      obtain ⟨m', hm, w7⟩ := hN σ7 H7 n7
      refine ⟨m', hm, i + 1, σ7, H7, I7.unpinned, T.keep _ _ _ st5 fun b hb o e => (I7.pin (b, o) (List.mem_append_right _ (List.mem_append_right _ (mem_pinsAt hb e)))).1, fun b hb => ?_, w7⟩
      obtain ⟨o, e, d⟩ := T.obj _ _ st5 b hb
      exact (I7.pin (b, o) (List.mem_append_right _ (List.mem_append_right _ (mem_pinsAt hb e)))).2.1
    cases f with
    | next => obtain ⟨σ7, H7, I7, n7⟩ := q7; exact again I7 n7
    | cont => obtain ⟨σ7, H7, I7, n7⟩ := q7; exact again I7 n7
    | brk => obtain ⟨σ7, H7, I7, q7⟩ := q7; exact ⟨σ7, H7, I7.unpinned, q7⟩
    | ret v => obtain ⟨x7, σ7, H7, I7, r7, q7⟩ := q7; exact ⟨x7, σ7, H7, I7.unpinned, r7, q7⟩
end
theorem for_range {lo : Int} {n : Nat} {g : TG} {tb : TS} {D : Ends} {σ : St} {H : Hp} (Pv : Nat -> St -> Hp -> Prop) (h0 : Pv 0 σ H)
    (hs : ∀ i σ H, i < n -> Pv i σ H -> g (.int (lo + i)) σ H fun σ2 H2 => tb { D with nx := Pv (i + 1), ct := Pv (i + 1), bk := D.nx } σ2 H2) (hd : ∀ σ H, Pv n σ H -> D.nx σ H) :
    ∃ W : Nat -> Nat -> St -> Hp -> Prop, (∃ m, W 0 m σ H) /\ ∀ i m σ H, W i m σ H ->
      ((Itr lo n).stop i H /\ D.nx σ H) \/ ((Itr lo n).go i H /\ ∃ N : St -> Hp -> Prop, (∀ σ' H', N σ' H' -> ∃ m', m' < m /\ W (i + 1) m' σ' H') /\ ∀ x H', (Itr lo n).yld i H x H' -> g x σ H' fun σ2 H2 => tb { D with nx := N, ct := N, bk := D.nx } σ2 H2) := by
  refine ⟨fun i m σ H => m = n - i /\ i <= n /\ Pv i σ H, ⟨n, by simp, Nat.zero_le _, h0⟩, ?_⟩
  rintro i m σ H ⟨rfl, hi, p⟩
  by_cases hlt : i < n
  · refine .inr ⟨hlt, Pv (i + 1), fun σ' H' p' => ⟨n - (i + 1), by omega, rfl, hlt, p'⟩, fun x H' y => ?_⟩
    obtain ⟨e, y⟩ := y
    subst e y
    exact hs i σ _ hlt p
  · have e : i = n := by omega
    subst e
    exact .inl ⟨Nat.le_refl _, hd σ H p⟩
end L2
namespace L2
open PySem PySem.Spec PyProof.Rows
abbrev R2 := V -> V -> Hp -> VK -> Prop
def OpR (X : Cx) (f : Value -> Value -> Sem Value) (r : R2) : Prop :=
  ∀ (pins : List (Addr × Obj)) (s : Shared) (σ : St) (H : Hp) (x y : V) (v u : Value) (Q : VK), Inv X pins σ H s -> RelV x v -> RelV y u -> r x y H Q ->
    wpAny (model X.prog X.w) X.A (f v u) (EP X pins σ Q) X.xe s
def CallR (X : Cx) (f : Value) (r : List V -> Hp -> VK -> Prop) : Prop :=
  ∀ (pins : List (Addr × Obj)) (s : Shared) (σ : St) (H : Hp) (xs : List V) (us : List Value) (Q : VK), Inv X pins σ H s -> Vals xs us -> r xs H Q ->
    wpAny (model X.prog X.w) X.A (call f us) (EP X pins σ Q) X.xe s
def TruR (X : Cx) (r : V -> Hp -> (Bool -> Hp -> Prop) -> Prop) : Prop :=
  ∀ (pins : List (Addr × Obj)) (s : Shared) (σ : St) (H : Hp) (x : V) (v : Value) (Q : Bool -> Hp -> Prop), Inv X pins σ H s -> RelV x v -> r x H Q ->
    wpAny (model X.prog X.w) X.A (truthy v) (TP X pins σ Q) X.xe s
def tOp (r : R2) (ta tb : TE) : TE := fun σ H Q => ta σ H fun x H1 => tb σ H1 fun y H2 => r x y H2 Q
def rI (C : Int -> Int -> Prop) (g : Int -> Int -> V) : R2 := fun x y H Q => ∃ i j, x = .int i /\ y = .int j /\ C i j /\ Q (g i j) H
def rI0 (g : Int -> Int -> V) : R2 := fun x y H Q => ∃ i j, x = .int i /\ y = .int j /\ Q (g i j) H
section
variable {X : Cx} {a b c : Expr} {ta tb tc : TE} {pos : Pos}
theorem binT (ha : PE X a ta) (hb : PE X b tb) {pins : List (Addr × Obj)} {s : Shared} {σ : St} {H : Hp} {R : V -> V -> Hp -> Prop} (I : Inv X pins σ H s)
    (h : ta σ H fun x H1 => tb σ H1 fun y H2 => R x y H2) {Q : Value -> Shared -> Prop} {f : Value -> Value -> Sem Value}
    (hf : ∀ v u s2 x y H2, Inv X pins σ H2 s2 -> RelV x v -> RelV y u -> R x y H2 -> wpAny (model X.prog X.w) X.A (f v u) Q X.xe s2) :
    wpAny (model X.prog X.w) X.A (eval a X.env) (fun v s₁ => wpAny (model X.prog X.w) X.A (eval b X.env) (fun u s₂ => wpAny (model X.prog X.w) X.A (f v u) Q X.xe s₂) X.xe s₁) X.xe s := by
  refine thn (ha pins s σ H _ I h) fun v s1 ⟨x, H1, I1, r1, q1⟩ => ?_
  refine thn (hb pins s1 σ H1 _ I1 q1) fun u s2 ⟨y, H2, I2, r2, q2⟩ => ?_
  exact hf v u s2 x y H2 I2 r1 r2 q2
theorem pe_op {op : Operator} {r : R2} (ho : OpR X (binaryOp op) r) (ha : PE X a ta) (hb : PE X b tb) : PE X (.BinOp a op b pos) (tOp r ta tb) := by
  intro pins s σ H Q I h
  exact wpAny_BinOp (binT ha hb I h fun v u s2 x y H2 I2 rx ry q => ho pins s2 σ H2 x y v u Q I2 rx ry q)
theorem opI {f : Value -> Value -> Sem Value} {C : Int -> Int -> Prop} {g : Int -> Int -> Int}
    (rule : ∀ (i j : Int) (t u : Tok) (s : Shared) (Q : Value -> Shared -> Prop) (E : Value -> Shared -> Prop), C i j -> Q (.int (g i j) s.toks) { s with toks := s.toks + 1 } -> wpAny (model X.prog X.w) X.A (f (.int i t) (.int j u)) Q E s) :
    OpR X f (rI C fun i j => .int (g i j)) := by
  intro pins s σ H x y v u Q I rx ry h
  obtain ⟨i, j, rfl, rfl, hc, q⟩ := h
  obtain ⟨t, rfl⟩ := rx
  obtain ⟨t', rfl⟩ := ry
  exact rule i j t t' s _ _ hc ⟨.int (g i j), H, I.tok _, ⟨_, rfl⟩, q⟩
theorem opI0 {f : Value -> Value -> Sem Value} {g : Int -> Int -> Int}
    (rule : ∀ (i j : Int) (t u : Tok) (s : Shared) (Q : Value -> Shared -> Prop) (E : Value -> Shared -> Prop), Q (.int (g i j) s.toks) { s with toks := s.toks + 1 } -> wpAny (model X.prog X.w) X.A (f (.int i t) (.int j u)) Q E s) :
    OpR X f (rI0 fun i j => .int (g i j)) := by
  intro pins s σ H x y v u Q I rx ry h
  obtain ⟨i, j, rfl, rfl, q⟩ := h
  obtain ⟨t, rfl⟩ := rx
  obtain ⟨t', rfl⟩ := ry
  exact rule i j t t' s _ _ ⟨.int (g i j), H, I.tok _, ⟨_, rfl⟩, q⟩
theorem opB0 {f : Value -> Value -> Sem Value} {g : Int -> Int -> Bool}
    (rule : ∀ (i j : Int) (t u : Tok) (s : Shared) (Q : Value -> Shared -> Prop) (E : Value -> Shared -> Prop), Q (.bool (g i j)) s -> wpAny (model X.prog X.w) X.A (f (.int i t) (.int j u)) Q E s) :
    OpR X f (rI0 fun i j => .bl (g i j)) := by
  intro pins s σ H x y v u Q I rx ry h
  obtain ⟨i, j, rfl, rfl, q⟩ := h
  obtain ⟨t, rfl⟩ := rx
  obtain ⟨t', rfl⟩ := ry
  exact rule i j t t' s _ _ ⟨.bl (g i j), H, I, rfl, q⟩
def CDiv (i j : Int) : Prop := 0 < j /\ j < 1073741824
def CPow (i j : Int) : Prop := 0 <= j /\ j <= 1000000 /\ i.natAbs < 2 ^ 64
def CMul (i j : Int) : Prop := (-(2 ^ 64) < i /\ i < 2 ^ 64) \/ (-(2 ^ 64) < j /\ j < 2 ^ 64)
theorem CMul.ok {i j : Int} (h : CMul i j) : IntMulOk i j := by
  rcases h with ⟨h1, h2⟩ | ⟨h1, h2⟩
  · exact .of_left (intBits_le_64 h1 h2)
  · exact .of_right (intBits_le_64 h1 h2)
theorem op_add : OpR X (binaryOp .Add) (rI0 fun i j => .int (i + j)) := opI0 fun _ _ _ _ _ _ _ q => add_int q
theorem op_sub : OpR X (binaryOp .Sub) (rI0 fun i j => .int (i - j)) := opI0 fun _ _ _ _ _ _ _ q => sub_int q
theorem op_mul : OpR X (binaryOp .Mult) (rI CMul fun i j => .int (i * j)) := opI fun _ _ _ _ _ _ _ hc q => mul_int q hc.ok
theorem op_fdiv : OpR X (binaryOp .FloorDiv) (rI CDiv fun i j => .int (i / j)) := opI fun i j _ _ _ _ _ hc q => by
  have h1 : (0 : Int) < j := hc.1
  have h2 : j < 1073741824 := hc.2
  exact floordiv_int (by omega) (by rw [Int.fdiv_eq_ediv_of_nonneg i (by omega)]; exact q) (.inl (PyProof.noPylong_small (by omega)))
theorem op_mod : OpR X (binaryOp .Mod) (rI (fun _ j => 0 < j) fun i j => .int (i % j)) := opI fun i j _ _ _ _ _ hc q => by
  have h1 : (0 : Int) < j := hc
  exact mod_int' (by omega) (by rw [Int.fmod_eq_emod_of_nonneg i (by omega)]; exact q)
theorem op_pow : OpR X (binaryOp .Pow) (rI CPow fun i j => .int (i ^ j.toNat)) := opI fun _ _ _ _ _ _ _ hc q => pow_int_small hc.1 hc.2.1 hc.2.2 q
end
section
variable {X : Cx} {a b c : Expr} {ta tb tc : TE} {pos : Pos}
theorem fin_bl {pins : List (Addr × Obj)} {σ : St} {H : Hp} {s : Shared} {Q : VK} {k k' : Bool} (I : Inv X pins σ H s) (q : Q (.bl k) H) (e : k = k') : EP X pins σ Q (.bool k') s := by
  subst e
  exact ⟨.bl k, H, I, rfl, q⟩
theorem op_lt : OpR X (compareOp .Lt) (rI0 fun i j => .bl (decide (i < j))) := opB0 fun _ _ _ _ _ _ _ q => lt_int q
theorem op_le : OpR X (compareOp .LtE) (rI0 fun i j => .bl (decide (i <= j))) := opB0 fun _ _ _ _ _ _ _ q => le_int q
theorem op_gt : OpR X (compareOp .Gt) (rI0 fun i j => .bl (decide (j < i))) := opB0 fun _ _ _ _ _ _ _ q => gt_int q
theorem op_ge : OpR X (compareOp .GtE) (rI0 fun i j => .bl (decide (j <= i))) := opB0 fun _ _ _ _ _ _ _ q => ge_int q
theorem op_in_str : OpR X (compareOp .In) (fun x y H Q => ∃ i j, x = .str i /\ y = .str j /\ Q (.bl (!(Builtin.Str.occurrences j i 0 j.length 1).isEmpty)) H) := by
  intro pins s σ H x y v u Q I rx ry h
  obtain ⟨i, j, rfl, rfl, q⟩ := h
  obtain ⟨t, rfl⟩ := rx
  obtain ⟨t', rfl⟩ := ry
  exact in_str (fin_bl I q rfl)
theorem op_isN : OpR X (compareOp .Is) (fun x y H Q => y = .non /\ Q (.bl (decide (x = .non))) H) := by
  intro pins s σ H x y v u Q I rx ry h
  obtain ⟨rfl, q⟩ := h
  cases ry
  refine is_none_gen (fin_bl I q ?_)
  cases x <;> first
    | (cases rx; rfl)
    | (obtain ⟨t, rfl⟩ := rx; rfl)
theorem op_notN : OpR X (compareOp .IsNot) (fun x y H Q => y = .non /\ Q (.bl (!decide (x = .non))) H) := by
  intro pins s σ H x y v u Q I rx ry h
  obtain ⟨rfl, q⟩ := h
  cases ry
  refine isnot_none_gen (fin_bl I q ?_)
  cases x <;> first
    | (cases rx; rfl)
    | (obtain ⟨t, rfl⟩ := rx; rfl)
theorem pe_cmpR {op : CmpOp} {r : R2} (ho : OpR X (compareOp op) r) (ha : PE X a ta) (hb : PE X b tb) (hm : behindInMarks op b = false) : PE X (.Compare a [op] [b] pos) (tOp r ta tb) := by
  intro pins s σ H Q I h
  exact wpAny_Compare1 (binT ha hb I h fun v u s2 x y H2 I2 rx ry q => ho pins s2 σ H2 x y v u Q I2 rx ry q) hm
def tTest (t : TE) : TT := fun σ H Q => t σ H fun x H' => ∃ k, x = .bl k /\ Q k H'
theorem pt_cmpR {op : CmpOp} {r : R2} (ho : OpR X (compareOp op) r) (ha : PE X a ta) (hb : PE X b tb) (hm : behindInMarks op b = false) : PT X (.Compare a [op] [b] pos) (tTest (tOp r ta tb)) := by
  intro pins s σ H Q I h
  refine wpAny_isTrue_Compare1 (thn (ha pins s σ H _ I h) fun v s1 ⟨x, H1, I1, r1, q1⟩ => thn (hb pins s1 σ H1 _ I1 q1) fun u s2 ⟨y, H2, I2, r2, q2⟩ =>
    thn (ho pins s2 σ H2 x y v u _ I2 r1 r2 q2) fun c s3 ⟨z, H3, I3, r3, k, e, q3⟩ => ?_) hm
  subst e
  cases r3
  exact wpAny_truthy_bool ⟨H3, I3, q3⟩
def TruV (K : PySem.W.Frag) (x : V) (H : Hp) (k : Bool) : Prop :=
  match x with
  | .non => k = false
  | .bl b => k = b
  | .int i => k = (i != 0)
  | .str y => y.length <= sizeLine /\ k = ((y.length : Int) != 0)
  | .byt y => y.size <= sizeLine /\ k = ((y.size : Int) != 0)
  | .ref p => (∃ xs, SqL K H p xs /\ k = !xs.isEmpty) \/ (∃ xs, SqT K H p xs /\ k = !xs.isEmpty) \/ ∃ kvs, H p = some (.dK kvs) /\ k = !kvs.isEmpty
  | _ => False
theorem isEmpty_kv {κ : Type} {kvs : List (κ × V)} {vs : List (κ × Value)} (r : KV kvs vs) : (!vs.isEmpty) = !kvs.isEmpty := by
  cases r <;> rfl
theorem isEmpty_of {xs : List V} {its : List Value} (r : Vals xs its) : (!its.toArray.isEmpty) = !xs.isEmpty := by
  cases r <;> simp
theorem line63 : (sizeLine : Nat) < 2 ^ 63 := by rw [sizeLine_eq]; decide
theorem tru_ok : TruR X (fun x H Q => ∃ k, TruV X.K x H k /\ Q k H) := by
  intro pins s σ H x v Q I rx h
  obtain ⟨k, e, q⟩ := h
  have hl := line63
  have hs : sizeLine = 16777216 := sizeLine_eq
  cases x with
  | non =>
    cases rx
    have e' : k = false := e
    subst e'
    exact truthy_none ⟨H, I, q⟩
  | bl b =>
    cases rx
    have e' : k = b := e
    subst e'
    exact wpAny_truthy_bool ⟨H, I, q⟩
  | int i =>
    obtain ⟨t, rfl⟩ := rx
    have e' : k = (i != 0) := e
    subst e'
    exact PySem.P.truthy_int ⟨H, I, q⟩
  | str y =>
    obtain ⟨t, rfl⟩ := rx
    obtain ⟨hy, e'⟩ : y.length <= sizeLine /\ k = ((y.length : Int) != 0) := e
    subst e'
    exact PySem.P.truthy_str (by omega) ⟨H, I.tok _, q⟩
  | byt y =>
    obtain ⟨t, rfl⟩ := rx
    obtain ⟨hy, e'⟩ : y.size <= sizeLine /\ k = ((y.size : Int) != 0) := e
    subst e'
    exact PySem.W.truthy_bytes (by omega) ⟨H, I.tok _, q⟩
  | ref p =>
    cases rx
    have e' : (∃ xs, SqL X.K H p xs /\ k = !xs.isEmpty) \/ (∃ xs, SqT X.K H p xs /\ k = !xs.isEmpty) \/ ∃ kvs, H p = some (.dK kvs) /\ k = !kvs.isEmpty := e
    rcases e' with ⟨xs, hx, e'⟩ | ⟨xs, hx, e'⟩ | ⟨kvs, hx, e'⟩
    · subst e'
      obtain ⟨its, r, pl, hz⟩ := I.list hx
      have hlen := r.length
      exact wpAny_truthy_list pl.isList (by simp only [List.size_toArray]; omega) ⟨H, I.tok _, by rw [isEmpty_of r]; exact q⟩
    · subst e'
      obtain ⟨its, r, pl, hz⟩ := I.tuple hx
      have hlen := r.length
      exact truthy_tuple pl (by simp only [List.size_toArray]; omega) ⟨H, I.tok _, by rw [isEmpty_of r]; exact q⟩
    · subst e'
      obtain ⟨hz, hS, vs, r, m⟩ : kvs.length <= sizeLine /\ (p == sysModules) = false /\ ∃ vs, KV kvs vs /\ s.heap.DictOf (mixKind X.prog X.w) p vs := I.hok p _ hx
      have hlen : kvs.length = vs.length := Paired.length r
      exact wpAny_truthy_dict hS m (by omega) ⟨H, I.tok _, by rw [isEmpty_kv r]; exact q⟩
  | _ => exact (show False from e).elim
theorem pt_truth (ha : PE X a ta) (he : ∀ whole, isTrue a X.env whole = (do let v <- whole; standAt a.pos; holding [v] (truthy v))) :
    PT X a (fun σ H Q => ta σ H fun x H' => ∃ k, TruV X.K x H' k /\ Q k H') := by
  intro pins s σ H Q I h
  exact isTrue_plain (thn (ha pins s σ H _ I h) fun v s1 ⟨x, H1, I1, r1, q1⟩ => tru_ok pins s1 σ H1 x v Q I1 r1 q1) (he _)
theorem op_add_str : OpR X (binaryOp .Add) (fun x y H Q => ∃ i j, x = .str i /\ y = .str j /\ i.length + j.length <= sizeLine /\ Q (.str (i ++ j)) H) := by
  intro pins s σ H x y v u Q I rx ry h
  obtain ⟨i, j, rfl, rfl, hz, q⟩ := h
  obtain ⟨t, rfl⟩ := rx
  obtain ⟨t', rfl⟩ := ry
  exact add_str (fun t' tk => ⟨.str (i ++ j), H, I.tok _, ⟨_, rfl⟩, q⟩) hz
theorem vals1 {x : V} {us : List Value} (r : Vals [x] us) : ∃ u, us = [u] /\ RelV x u := by
  cases r with
  | cons r1 r2 => cases r2; exact ⟨_, rfl, r1⟩
theorem call_int1 : CallR X (.type "int") (fun xs H Q => (∃ i, xs = [.int i] /\ Q (.int i) H) \/ ∃ k, xs = [.bl k] /\ Q (.int (if k then 1 else 0)) H) := by
  intro pins s σ H xs us Q I r h
  rcases h with ⟨i, rfl, q⟩ | ⟨k, rfl, q⟩
  · obtain ⟨u, rfl, t, rfl⟩ := vals1 r
    exact call_int_int ⟨.int i, H, I, ⟨_, rfl⟩, q⟩
  · obtain ⟨u, rfl, r1⟩ := vals1 r
    cases r1
    exact call_int_bool ⟨.int (if k then 1 else 0), H, I.tok _, ⟨_, rfl⟩, q⟩
theorem call_str_int : CallR X (.type "str") (fun xs H Q => ∃ i, xs = [.int i] /\ i.natAbs.log2 < 1920 /\ Q (.str (toString i)) H) := by
  intro pins s σ H xs us Q I r h
  obtain ⟨i, rfl, hz, q⟩ := h
  obtain ⟨u, rfl, t, rfl⟩ := vals1 r
  exact PySem.P.str_of_int hz ⟨.str _, H, I.tok _, ⟨_, rfl⟩, q⟩
end
end L2
namespace L2
open PySem PySem.Spec PyProof.Rows
section
variable {prog : Program} {w : World} {A : Around} {E : Value -> Shared -> Prop} {s : Shared} {K : PySem.W.Frag} {x dx C f : Addr} {mA : Str -> Option Value} {name : Str} {v : Value}
end
theorem RelO.some_of {v : V} {o : Option Value} (r : RelO (some v) o) : ∃ u, o = some u /\ RelV v u := by
  cases o with
  | none => exact (show False from r).elim
  | some u => exact ⟨u, rfl, r⟩
section
variable {P : Program} {w : World} {H H' : Hp} {h h' : Heap} {a C dx : Addr} {fs fs' : List (Str × V)}
end
structure Cls (K : PySem.W.Frag) (C : Addr) : Prop where
  pg : PySem.W.plainGet K C Str.empty = true
  hd : PySem.W.hasDictIn K C = true
  po : PySem.W.plainOver K C = true
  sa : PySem.W.findIn K (.ref C) "__setattr__" = some (some (.builtin "object.__setattr__"))
def NoAttr (K : PySem.W.Frag) (C : Addr) (f : Str) : Prop := PySem.W.findIn K (.ref C) f = some none
structure Con (K : PySem.W.Frag) (C : Addr) (f : Str) (v : V) (u : Value) : Prop where
  at_ : PySem.W.findIn K (.ref C) f = some (some u)
  rel : RelV v u
  get : PySem.W.specialIn K u "__get__" = some none
  cp : PySem.W.copiedNames.contains f = false
structure Meth (K : PySem.W.Frag) (C : Addr) (m : Str) (f : Addr) : Prop where
  at_ : PySem.W.findIn K (.ref C) m = some (some (.ref f))
  fn : PySem.W.isFn K (.ref f) = true
  kp : PySem.W.keepIn K (.ref f) = true
section
variable {X : Cx} {pins : List (Addr × Obj)} {σ : St} {H : Hp} {s : Shared} {a C dx : Addr} {fs : List (Str × V)} {f : Str} {v : V} {A : Around} {E : Value -> Shared -> Prop}
end
section
variable {X : Cx} {o e value : Expr} {f : Str} {pos pos' tpos : Pos} {ta tv : TE}
end
section
variable {X : Cx} {pins : List (Addr × Obj)} {σ : St} {H : Hp} {s : Shared} {A : Around} {E : Value -> Shared -> Prop} {Q : Value -> Shared -> Prop} {c : Value} {b : Bool}
end
end L2
namespace L2
open PySem PySem.Spec PyProof.Rows
structure Room (k : Nat) (A : Around) : Prop where
  hd : A.handled = none
  dp : A.depth + 3 * k + 5 < recursionLimit
  un : A.units + 16 * k + 200 < cLine
theorem Room.mono {j k : Nat} {A : Around} (r : Room k A) (h : j <= k) : Room j A := ⟨r.hd, by have := r.dp; omega, by have := r.un; omega⟩
theorem Room.deeper {k : Nat} {A : Around} (r : Room (k + 1) A) (env : Env) : Room k (A.deeper env) :=
  ⟨r.hd, by have := r.dp; show A.depth + 1 + 3 * k + 5 < _; omega, by have := r.un; show A.units + 3 + 16 * k + 200 < _; omega⟩
theorem Room.depth {k : Nat} {A : Around} (r : Room k A) : A.depth < recursionLimit := by have := r.dp; omega
theorem Room.units {k : Nat} {A : Around} (r : Room k A) : A.units + 64 < cLine := by have := r.un; omega
def tNil : TA := fun _ H Q => Q [] H
def tCons (ta : TE) (tr : TA) : TA := fun σ H Q => ta σ H fun x H1 => tr σ H1 fun xs H2 => Q (x :: xs) H2
section
variable {X : Cx} {e : Expr} {es : List Expr} {te : TE} {t : TA} {pos : Pos}
theorem pa_nil : PA X [] tNil := fun _ _ _ _ H Q I h => Calls.spliced_nil ⟨[], H, I, .nil, h⟩
theorem pa_cons (ha : PE X e te) (hr : PA X es t) (hs : starEach (e :: es) X.env = (false, eval e X.env) :: starEach es X.env := by rfl) : PA X (e :: es) (tCons te t) := by
  intro pos pins s σ H Q I h
  rw [hs]
  show wpAny _ _ (spliced ((false, eval e X.env) :: backTo pos (starEach es X.env))) _ _ s
  refine Calls.spliced_cons (thn (ha pins s σ H _ I h) fun u s1 ⟨x, H1, I1, r1, q1⟩ => ?_)
  exact thn (hr pos pins s1 σ H1 _ I1 q1) fun us s2 ⟨xs, H2, I2, r2, q2⟩ => ⟨x :: xs, H2, I2, .cons r1 r2, q2⟩
def tTup (t : TA) : TE := fun σ H Q => t σ H fun xs H1 => xs.length <= sizeLine /\ ∀ p, H1 p = none -> Q (.ref p) (upd H1 p (.tup xs))
def tLst (t : TA) : TE := fun σ H Q => t σ H fun xs H1 => xs.length <= sizeLine /\ ∀ p, H1 p = none -> Q (.ref p) (upd H1 p (.lst xs))
theorem pe_tup {x1} (h : PA X es t) : PE X (.Tuple es x1 pos) (tTup t) := by
  intro pins s σ H Q I hq
  refine wpAny_Tuple_spliced (thn (h pos pins s σ H _ I hq) fun us s1 ⟨xs, H1, I1, r, z, q⟩ => ⟨by rw [<- r.length]; exact z, ?_⟩)
  have hf : H1 s1.heap.objs.size = none := I1.hok.fresh (Nat.le_refl _)
  refine ⟨.ref s1.heap.objs.size, upd H1 s1.heap.objs.size (.tup xs), I1.laid (t' := s1.toks) (fun b u e => Heap.get?_push_of_some _ e) (Nat.le_refl _) ?_, rfl, q _ hf⟩
  exact ⟨z, us, r, ⟨_, Heap.get?_push_size _ rfl, rfl, _, rfl⟩⟩
theorem pe_lst (h : PA X es t) : PE X (.List es pos) (tLst t) := by
  intro pins s σ H Q I hq
  refine wpAny_List_spliced (thn (h pos pins s σ H _ I hq) fun us s1 ⟨xs, H1, I1, r, z, q⟩ => ⟨by rw [<- r.length]; exact z, ?_⟩)
  have hf : H1 s1.heap.objs.size = none := I1.hok.fresh (Nat.le_refl _)
  refine ⟨.ref s1.heap.objs.size, upd H1 s1.heap.objs.size (.lst xs), I1.laid (t' := s1.toks) (fun b u e => Heap.get?_push_of_some _ e) (Nat.le_refl _) ?_, rfl, q _ hf⟩
  exact ⟨z, us, 0, r, Heap.get?_push_size _ rfl⟩
end
abbrev Sp := List V -> Hp -> VK -> XK -> Prop
abbrev CXT := List Env -> Hp -> Shared -> XK -> Value -> Shared -> Prop
structure Env0 (P : Program) (w : World) (K : PySem.W.Frag) (mg : Str -> Option Value) (base : Heap) (A : Around) (outer : List Env) (s : Shared) (H : Hp) : Prop where
  frames : A.frames = some outer
  mod : Mod K mg base
  bs : ∀ b o, base.get? b = some o -> s.heap.get? b = some o /\ H b = none
  bsz : base.objs.size <= s.heap.objs.size
  funs : s.heap.FunFrames base outer
  frf : ∀ b ∈ frs outer, H b = none
  hok : HOk P w H s.heap
  bare : AllBare s.gens
def CE (outer : List Env) (P : Program) (w : World) (H : Hp) (s : Shared) (Q : VK) (u : Value) (s' : Shared) : Prop :=
  ∃ v H', s'.os = s.os /\ AllBare s'.gens /\ Un (frs outer) [] H H' s.heap s'.heap /\ HOk P w H' s'.heap /\ RelV v u /\ Q v H'
def CR (CX : CXT) (outer : List Env) (P : Program) (w : World) (H : Hp) (s : Shared) (Q : VK) (E : XK) (r : Result) (s' : Shared) : Prop :=
  match r with
  | .ok (.ret u) => CE outer P w H s Q u s'
  | .ok _ => False
  | .error e => CX outer H s E e s'
structure FnOk (P : Program) (w : World) (K : PySem.W.Frag) (mg : Str -> Option Value) (base : Heap) (CX : CXT) (k : Nat) (f : Addr) (fd : FuncData) (ps : List Str) (sp : Sp) : Prop where
  len : ∀ vs H Q E, sp vs H Q E -> vs.length = ps.length
  run : ∀ (A : Around) (outer : List Env) (s : Shared) (H : Hp) (args : Args) (us : List Value) (vs : List V) (Q : VK) (E : XK), Room k A -> Env0 P w K mg base A outer s H -> BindsTo s fd args (ps.zip us) -> Vals vs us -> sp vs H Q E ->
    codeAny (model P w) A (.call (.ref f) args) (CR CX outer P w H s Q E) s
theorem FnOk.imp {P : Program} {w : World} {K : PySem.W.Frag} {mg : Str -> Option Value} {base : Heap} {CX : CXT} {k : Nat} {f : Addr} {fd : FuncData} {ps : List Str} {sp sp' : Sp} (F : FnOk P w K mg base CX k f fd ps sp)
    (h : ∀ vs H Q E, sp' vs H Q E -> sp vs H Q E) : FnOk P w K mg base CX k f fd ps sp' :=
  ⟨fun vs H Q E q => F.len vs H Q E (h _ _ _ _ q), fun A outer s H args us vs Q E hr he hb hv hs => F.run A outer s H args us vs Q E hr he hb hv (h _ _ _ _ hs)⟩
section
variable {X : Cx} {pins : List (Addr × Obj)} {σ : St} {H : Hp} {s s' : Shared}
theorem Inv.env0 (I : Inv X pins σ H s) : Env0 X.prog X.w X.K X.mg X.base X.A X.stack s H :=
  ⟨I.ok.frames, I.ok.mod, I.bs, Nat.le_trans I.ok.bsz I.sz, I.stack, I.stkFree, I.hok, I.bare⟩
theorem Inv.after {Q : VK} {u : Value} (I : Inv X pins σ H s) (h : CE X.stack X.prog X.w H s Q u s') : EP X pins σ Q u s' := by
  obtain ⟨v, H', os, bare, un, hok, r, q⟩ := h
  obtain ⟨hh, g, d, t, os'⟩ := s'
  obtain rfl : os' = s.os := os
  exact ⟨v, H', I.call (h' := hh) (g' := g) (d' := d) (t' := t) (ch := []) un hok bare (fun b z => absurd z (by simp)), r, q⟩
end
def tCall (sp : Sp) (dvs : List V) (E : XK) (t : TA) : TE := fun σ H Q => t σ H fun vs H1 => sp (vs ++ dvs) H1 Q E
def Binds (K : PySem.W.Frag) (fd : FuncData) (ps : List Str) (ds : List Value) : Prop :=
  ∀ (s : Shared) (us : List Value), K.In s.heap -> (us ++ ds).length = ps.length -> BindsTo s fd ⟨us, []⟩ (ps.zip (us ++ ds))
theorem Binds.all {K : PySem.W.Frag} {fd : FuncData} {ps : List Str} (h : ∀ us : List Value, us.length = ps.length -> bindArgs fd ⟨us, []⟩ = pure (ps.zip us)) : Binds K fd ps [] := fun s us _ hl => by
  rw [List.append_nil] at hl ⊢
  exact .of_eq (h us hl)
def Passes (CX : CXT) (X : Cx) (E : XK) : Prop := ∀ (pins : List (Addr × Obj)) (σ : St) (H : Hp) (s : Shared) (e : Value) (s' : Shared), Inv X pins σ H s -> CX X.stack H s E e s' -> X.xe e s'
section
variable {X : Cx} {CX : CXT} {k : Nat} {f C : Addr} {fd : FuncData} {ps : List Str} {sp : Sp} {dvs : List V} {ds : List Value} {E : XK} {x m : Str} {p pos apos : Pos} {e o : Expr} {es : List Expr} {ta : TE} {t : TA}
theorem run_fn {pins : List (Addr × Obj)} {σ : St} {H : Hp} {s : Shared} {Q : VK} {us : List Value} {vs : List V} (F : FnOk X.prog X.w X.K X.mg X.base CX k f fd ps sp) (hr : Room k X.A) (hb : Binds X.K fd ps ds) (hd : Vals dvs ds) (hx : Passes CX X E)
    (I : Inv X pins σ H s) (r : Vals vs us) (h : sp (vs ++ dvs) H Q E) : wpAny (model X.prog X.w) X.A (call (.ref f) us) (EP X pins σ Q) X.xe s := by
  have r2 : Vals (vs ++ dvs) (us ++ ds) := r.append hd
  have hl : (us ++ ds).length = ps.length := by rw [<- r2.length]; exact F.len _ _ _ _ h
  refine wpAny_call (codeAny_mono (F.run X.A X.stack s H ⟨us, []⟩ (us ++ ds) (vs ++ dvs) Q E hr I.env0 (hb s us I.kIn hl) r2 h) fun r s' hq => ?_)
  cases r with
  | error e => exact hx pins σ H s e s' I hq
  | ok fl =>
    cases fl with
    | ret u => exact I.after hq
    | next => exact False.elim hq
    | brk => exact False.elim hq
    | cont => exact False.elim hq
theorem pe_call (F : FnOk X.prog X.w X.K X.mg X.base CX k f fd ps sp) (hr : Room k X.A) (hg : Gl X x) (hm : X.mg x = some (.ref f)) (hk : PySem.W.keepIn X.K (.ref f) = true) (hb : Binds X.K fd ps ds) (hd : Vals dvs ds) (hx : Passes CX X E)
    (ha : PA X (e :: es) t) (hdb : (x == ("__debug__" : Str)) = false := by decide) (he : starEach (e :: es) X.env = (false, eval e X.env) :: starEach es X.env := by rfl) (hpl : (backTo pos (starEach es X.env)).any (·.1) = false := by rfl) :
    PE X (.Call (.Name x p) (e :: es) [] pos) (tCall sp dvs E t) := by
  intro pins s σ H Q I h
  refine wpAny_Call_Name_kw (ld_glob I hg hm ?_ hdb)
  refine PySem.W.callWith_K (h₀ := X.base) I.ok.mod.kin hk (thn (ha pos pins s σ H _ I h) fun us s1 ⟨vs, H1, I1, r, q⟩ => ⟨I1.kIn, ?_⟩) he hpl
  exact run_fn F hr hb hd hx I1 r q
structure Mk (K : PySem.W.Frag) (C f : Addr) : Prop where
  makes : PySem.W.makesIn K C = true
  init : PySem.W.findIn K (.ref C) "__init__" = some (some (.ref f))
  fn : PySem.W.isFn K (.ref f) = true
  kp : PySem.W.keepIn K (.ref C) = true
end
section
variable {X : Cx} {CX : CXT} {k : Nat} {f C : Addr} {fd : FuncData} {ps ks : List Str} {sp : Sp} {E : XK} {x m : Str} {p pos apos kpos : Pos} {e o : Expr} {es : List Expr} {kws : List Keyword} {te ta : TE} {t tk : TA} {nm : Option Str}
variable {g : List Value -> List Value -> List Value} {gV : List V -> List V -> List V}
end
structure FnScope (N P : List Str) (sc : Scope) : Prop where
  kind : sc.kind = .function
  co : sc.isCoroutine = false
  gen : sc.isGenerator = false
  nd : N.Nodup
  pre : N.take P.length = P
  par : ∀ x ∈ P, sc.names.lookup x = some .local \/ sc.names.lookup x = some .cell
  nofree : ∀ y ∈ sc.names, y.2 ≠ .free
theorem bindL_out {kindOf : Str -> Option NameKind} {x : Str} : ∀ {binds : List (Str × Value)} {m : Str -> Option Value}, (∀ v, (x, v) ∉ binds) -> bindL kindOf binds m x = m x
  | [], _, _ => rfl
  | (n, v) :: r, m, h => by
    unfold bindL
    rw [bindL_out fun w hw => h w (List.mem_cons_of_mem _ hw)]
    split
    · have : x ≠ n := by rintro rfl; exact h v List.mem_cons_self
      simp [this]
    · rfl
theorem bindC_out {kindOf : Str -> Option NameKind} {x : Str} : ∀ {binds : List (Str × Value)} {m : Str -> Option Value}, (∀ v, (x, v) ∉ binds) -> bindC kindOf binds m x = m x
  | [], _, _ => rfl
  | (n, v) :: r, m, h => by
    unfold bindC
    rw [bindC_out fun w hw => h w (List.mem_cons_of_mem _ hw)]
    split
    · rfl
    · have : x ≠ n := by rintro rfl; exact h v List.mem_cons_self
      simp [this]
theorem bindL_get {kindOf : Str -> Option NameKind} {x : Str} {v : Value} : ∀ {P : List Str} {vs : List Value} {i : Nat} {m : Str -> Option Value}, P.Nodup -> P[i]? = some x -> vs[i]? = some v -> kindOf x = some .local ->
    bindL kindOf (P.zip vs) m x = some v
  | [], _, _, _, _, h, _, _ => by simp at h
  | _ :: _, [], _, _, _, _, h, _ => by simp at h
  | p :: P, w :: vs, 0, m, nd, h1, h2, hk => by
    simp at h1 h2; subst h1; subst h2
    show bindL kindOf ((p, w) :: P.zip vs) m p = _
    unfold bindL
    rw [bindL_out fun v hv => (List.nodup_cons.mp nd).1 (List.of_mem_zip hv).1, if_pos hk]
    simp
  | p :: P, w :: vs, i + 1, m, nd, h1, h2, hk => by
    show bindL kindOf ((p, w) :: P.zip vs) m x = _
    unfold bindL
    exact bindL_get (i := i) (List.nodup_cons.mp nd).2 (by simpa using h1) (by simpa using h2) hk
theorem bindC_get {kindOf : Str -> Option NameKind} {x : Str} {v : Value} : ∀ {P : List Str} {vs : List Value} {i : Nat} {m : Str -> Option Value}, P.Nodup -> P[i]? = some x -> vs[i]? = some v -> kindOf x ≠ some .local ->
    bindC kindOf (P.zip vs) m x = some v
  | [], _, _, _, _, h, _, _ => by simp at h
  | _ :: _, [], _, _, _, _, h, _ => by simp at h
  | p :: P, w :: vs, 0, m, nd, h1, h2, hk => by
    simp at h1 h2; subst h1; subst h2
    show bindC kindOf ((p, w) :: P.zip vs) m p = _
    unfold bindC
    rw [bindC_out fun v hv => (List.nodup_cons.mp nd).1 (List.of_mem_zip hv).1, if_neg hk]
    simp
  | p :: P, w :: vs, i + 1, m, nd, h1, h2, hk => by
    show bindC kindOf ((p, w) :: P.zip vs) m x = _
    unfold bindC
    exact bindC_get (i := i) (List.nodup_cons.mp nd).2 (by simpa using h1) (by simpa using h2) hk
def start (N : List Str) (vs : List V) : St := vs.map some ++ List.replicate (N.length - vs.length) none
def cxOf (CX : CXT) (P : Program) (w : World) (K : PySem.W.Frag) (mg : Str -> Option Value) (base : Heap) (N : List Str) (qual : Str) (scope : Scope) (f : Addr) (cd : Value) (A : Around) (outer : List Env) (s : Shared) (H : Hp) (E : XK) : Cx where
  prog := P
  w := w
  K := K
  mg := mg
  base := base
  A := A.deeper (envOfC qual scope s.heap.objs.size f cd)
  N := N
  s₀ := s
  H₀ := H
  env := envOfC qual scope s.heap.objs.size f cd
  outer := outer
  stack := envOfC qual scope s.heap.objs.size f cd :: outer
  ex := []
  calm := true
  fn := fun _ => true
  pn := []
  xe := fun e s' => wpAny (model P w) (A.deeper (envOfC qual scope s.heap.objs.size f cd)) (leaving (envOfC qual scope s.heap.objs.size f cd) e) (fun _ s'' => CX outer H s E e s'') (fun e' s'' => CX outer H s E e' s'') s'
theorem cell_has {sc : Scope} {n : Nat} {x : Str} (h : sc.names.lookup x = some .cell) : ∃ c, (cellsFrom n sc.names []).lookup x = some c := by
  have q := PySem.W.cellsFrom_some sc.names n [] (.inl h)
  exact Option.isSome_iff_exists.mp q
theorem inv_start {CX : CXT} {P : Program} {w : World} {K : PySem.W.Frag} {mg : Str -> Option Value} {base : Heap} {N ps : List Str} {qual : Str} {scope : Scope} {f : Addr} {cd : Value} {A : Around} {outer : List Env} {s s1 : Shared} {H : Hp} {E : XK} {us : List Value} {vs : List V}
    (S : FnScope N ps scope) (hd : A.handled = none) (e0 : Env0 P w K mg base A outer s H) (hl : vs.length = ps.length) (r : Vals vs us)
    (x : InCallC s s.heap.objs.size (bindL (envOfC qual scope s.heap.objs.size f cd).kindOf (ps.zip us) fun _ => none) (cellsFrom (s.heap.objs.size + 1) scope.names []) (bindC (envOfC qual scope s.heap.objs.size f cd).kindOf (ps.zip us) fun _ => none) s1) :
    Inv (cxOf CX P w K mg base N qual scope f cd A outer s H E) [] (start N vs) H s1 := by
  have hpl : ps.length <= N.length := by have := congrArg List.length S.pre; rw [List.length_take] at this; omega
  obtain ⟨h1, tk, rfl, hk⟩ := x.done
  have noA : ∀ b : Addr, b ∉ (cxOf CX P w K mg base N qual scope f cd A outer s H E).ex := fun b z => absurd (show b ∈ ([] : List Addr) from z) (by simp)
  refine ⟨⟨e0.mod, S.kind, rfl, rfl, Nat.le_refl _, fun y z c h1 h2 => ?_, fun y hy => ?_, fun y c _ h => ?_, fun _ => hd, Around.frames_deeper e0.frames, .inr ⟨rfl, rfl⟩, fun b z => absurd z (noA b), e0.bs, e0.bsz, fun b _ _ => noA b, fun b z => absurd z (noA b), e0.funs, e0.frf⟩,
    rfl, e0.bare, Un.kept hk, ⟨_, x.toInCall.ns, fun i y v h1 h2 h3 => ?_⟩, fun y c h => ⟨_, x.cell y c h⟩, e0.hok.fresh (Nat.le_refl _), fun y c h => ?_, fun p hp => absurd (show p ∈ ([] : List (Addr × Obj)) from hp) (by simp), e0.hok.kept hk, ?_⟩
  · exact name_of_addr x.apart (PySem.mem_of_lookup h1) (PySem.mem_of_lookup h2)
  · have hy : scope.names.lookup y = some .cell \/ scope.names.lookup y = some .free := hy
    rcases hy with hy | hy
    · exact cell_has hy
    · exact absurd rfl (S.nofree _ (PySem.mem_of_lookup hy))
  · exact Nat.le_of_lt (x.above y c (PySem.mem_of_lookup h))
  · have hi : i < vs.length := by
      unfold start at h2
      by_cases hi : i < vs.length
      · exact hi
      · rw [List.getElem?_append_right (by simpa using hi)] at h2
        rw [List.getElem?_replicate] at h2
        split at h2 <;> cases h2
    have ha : vs[i]? = some v := by
      unfold start at h2
      rw [List.getElem?_append_left (by simpa using hi), List.getElem?_map] at h2
      cases e : vs[i]? with
      | none => rw [e] at h2; cases h2
      | some a => rw [e] at h2; cases h2; rfl
    obtain ⟨u, hu, rv⟩ := r.get ha
    have hp : ps[i]? = some y := by
      rw [<- S.pre, List.getElem?_take_of_lt (by omega)]; exact h1
    have ndP : ps.Nodup := by rw [<- S.pre]; exact S.nd.sublist (List.take_sublist _ _)
    refine ⟨u, rv, ?_⟩
    rcases S.par y (List.mem_of_getElem? hp) with k | k
    · exact .inl ⟨k, bindL_get ndP hp hu k⟩
    · obtain ⟨c, e⟩ := cell_has (n := s.heap.objs.size + 1) k
      refine .inr ⟨.inl k, c, e, ?_⟩
      have q := x.cell y c e
      rw [bindC_get ndP hp hu (by show scope.names.lookup y ≠ _; rw [k]; decide)] at q
      exact q
  · exact e0.hok.fresh (Nat.le_of_lt (x.above y c (PySem.mem_of_lookup h)))
  · unfold start
    show _ = N.length
    rw [List.length_append, List.length_map, List.length_replicate]
    omega
theorem fn_of {CX : CXT} {P : Program} {w : World} {K : PySem.W.Frag} {mg : Str -> Option Value} {base : Heap} {k : Nat} {f : Addr} {name qual : Str} {params : Arguments} {body : List Stmt} {scope : Scope} {dV kV doc pm cdv ct oc : Value} {an od : Option Addr}
    {osl : Array (Option Value)} {N ps : List Str} {sp : Sp} (lk : K.lookup f = some ⟨oc, od, .func (PySem.W.fnOf name qual params body scope dV kV doc pm an cdv ct), osl⟩) (hcd : PySem.W.codeIn K cdv qual = true) (S : FnScope N ps scope)
    (len : ∀ vs H Q E, sp vs H Q E -> vs.length = ps.length)
    (hbody : ∀ (A : Around) (outer : List Env) (s : Shared) (H : Hp) (vs : List V) (Q : VK) (E : XK), Room k (A.deeper (envOfC qual scope s.heap.objs.size f cdv)) -> sp vs H Q E ->
      ∃ t, PSs (cxOf CX P w K mg base N qual scope f cdv A outer s H E) body t /\ t { nx := fun _ H' => Q .non H', rt := Q } (start N vs) H) :
    FnOk P w K mg base CX (k + 1) f (PySem.W.fnOf name qual params body scope dV kV doc pm an cdv ct) ps sp := by
  refine ⟨len, fun A outer s H args us vs Q E hr e0 hb r hsp => ?_⟩
  have hl := len _ _ _ _ hsp
  have KX : K.In s.heap := e0.mod.kin.keeps fun b o e => (e0.bs b o e).1
  have lim : s.heap.NoLimit := e0.mod.nolimit.keeps fun b o e => (e0.bs b o e).1
  have hkind : ∀ y ∈ ps.zip us, scope.names.lookup y.1 = some .local \/ (scope.names.lookup y.1 = some .cell /\ ((cellsFrom (s.heap.objs.size + 1) scope.names []).lookup y.1).isSome = true) := fun ⟨n, v⟩ hy => by
    rcases S.par n (List.of_mem_zip hy).1 with q | q
    · exact .inl q
    · exact .inr ⟨q, PySem.W.cellsFrom_some _ _ _ (.inl q)⟩
  refine codeAny_call_function hr.depth (KX _ _ lk) rfl S.co S.gen rfl (PySem.W.codeRec_of KX hcd) (hb _ _ _ _ ?_)
  refine wpAny_newFunctionEnv_cells S.kind hkind fun env he s1 x => ?_
  subst he
  refine ⟨lim.keeps x.toInCall.keep, codeAny_func ?_⟩
  obtain ⟨t, ht, hq⟩ := hbody A outer s H vs Q E (hr.deeper _) hsp
  have I : Inv (cxOf CX P w K mg base N qual scope f cdv A outer s H E) [] (start N vs) H s1 := inv_start S hr.hd e0 hl r x
  refine wpAny_mono (ht [] s1 (start N vs) H _ I hq) (fun fl s' hs => ?_) fun e s' hs => hs
  have fin : ∀ {σ' : St} {H' : Hp} {v : V} {u : Value}, Inv (cxOf CX P w K mg base N qual scope f cdv A outer s H E) [] σ' H' s' -> RelV v u -> Q v H' -> CE outer P w H s Q u s' :=
    fun {σ' H' v u} J rv q => ⟨v, H', J.os, J.bare, J.base, J.hok, rv, q⟩
  cases fl with
  | ret u =>
    obtain ⟨v, σ', H', J, rv, q⟩ := hs
    exact fin J rv q
  | next =>
    obtain ⟨σ', H', J, q⟩ := hs
    exact fin (v := V.non) (u := Value.none) J rfl q
  | brk =>
    obtain ⟨_, _, _, q⟩ := hs
    exact False.elim q
  | cont =>
    obtain ⟨_, _, _, q⟩ := hs
    exact False.elim q
end L2
namespace L2
open PySem PySem.Spec PyProof.Rows
section
variable {X : Cx} {x : Str} {p pos : Pos} {e : Expr} {es : List Expr} {t : TA} {id T : String} {r : List V -> Hp -> VK -> Prop}
def tCB (r : List V -> Hp -> VK -> Prop) (t : TA) : TE := fun σ H Q => t σ H fun vs H1 => r vs H1 Q
theorem pe_callB (hc : CallR X (.builtin id) r) (hg : Gl X x) (hm : X.mg x = none) (hv : bootBuiltins x = some (.builtin id)) (ha : PA X (e :: es) t) (hn : x ≠ "__name__" := by decide) (hdb : (x == ("__debug__" : Str)) = false := by decide)
    (he : starEach (e :: es) X.env = (false, eval e X.env) :: starEach es X.env := by rfl) (hpl : (backTo pos (starEach es X.env)).any (·.1) = false := by rfl) : PE X (.Call (.Name x p) (e :: es) [] pos) (tCB r t) := by
  intro pins s σ H Q I h
  refine wpAny_Call_Name_kw (ld_blt I hg hm hv ?_ hn hdb)
  exact PyProof.Rows.callWith_builtin1 (thn (ha pos pins s σ H _ I h) fun us s1 ⟨vs, H1, I1, r1, q1⟩ => hc pins s1 σ H1 vs us Q I1 r1 q1) he hpl
theorem pe_callTy (hc : CallR X (.type T) r) (hg : Gl X x) (hm : X.mg x = none) (hv : bootBuiltins x = some (.type T)) (ha : PA X (e :: es) t) (hn : x ≠ "__name__" := by decide) (hdb : (x == ("__debug__" : Str)) = false := by decide)
    (he : starEach (e :: es) X.env = (false, eval e X.env) :: starEach es X.env := by rfl) (hpl : (backTo pos (starEach es X.env)).any (·.1) = false := by rfl) : PE X (.Call (.Name x p) (e :: es) [] pos) (tCB r t) := by
  intro pins s σ H Q I h
  refine wpAny_Call_Name_kw (ld_blt I hg hm hv ?_ hn hdb)
  exact PyProof.Rows.callWith_type1 (thn (ha pos pins s σ H _ I h) fun us s1 ⟨vs, H1, I1, r1, q1⟩ => hc pins s1 σ H1 vs us Q I1 r1 q1) he hpl
end
end L2
namespace HT
open PySem PyProof.Rows
section
open PySem.SeqAt
open PySem.AutoSeq1 (wpAny_loadPart')
open PySem.MeetsSeq PySem.MeetsSeq2 PySem.MeetsSeq3
end
section
variable {prog : Program} {w : World} {A : Around} {E : Value -> Shared -> Prop} {s : Shared}
theorem cat_tup {t b : Addr} {vs ws : List Value} {Q : Value -> Shared -> Prop} (ht : IsTup s.heap t vs.toArray) (hb : IsTup s.heap b ws.toArray) (hv : vs ≠ [])
    (h1 : ws = [] -> Q (.ref t) s) (h2 : ws ≠ [] -> Q (.ref s.heap.objs.size) { s with heap := s.heap.push { cls := .type "tuple", data := .seq (vs ++ ws).toArray } })
    (hsz : vs.length + ws.length <= sizeLine) : wpAny (model prog w) A (binaryOp .Add (.ref t) (.ref b)) Q E s := by
  obtain ⟨⟨cls, dd, data, sl⟩, ho, hc, n, hd⟩ := id ht
  obtain ⟨⟨cls2, dd2, data2, sl2⟩, ho2, hc2, n2, hd2⟩ := id hb
  simp only at hc hd hc2 hd2
  subst hc hd hc2 hd2
  have e : vs.toArray ++ ws.toArray = (vs ++ ws).toArray := by simp
  by_cases hw : ws = []
  · exact concat_meets ⟨_, ho, rfl⟩ ⟨_, ho2, rfl⟩ noFill_tuple_add seq_tuple_add PySem.F.slot_tuple_add PySem.F.entry_tuple_add (PySem.F.args_tuple_add_2 _ _)
      (tuple_addW1 t b vs.toArray ws.toArray n n2 dd dd2 sl sl2 (by simpa using hv) (by simp [hw])) ⟨ho, ho2, h1 hw⟩
  · refine concat_meets ⟨_, ho, rfl⟩ ⟨_, ho2, rfl⟩ noFill_tuple_add seq_tuple_add PySem.F.slot_tuple_add PySem.F.entry_tuple_add (PySem.F.args_tuple_add_2 _ _)
      (tuple_addW2 t b vs.toArray ws.toArray n n2 dd dd2 sl sl2 (by simpa using hv) (by simpa using hw) (by rw [List.size_toArray, List.size_toArray]; exact hsz)) ⟨ho, ho2, ?_⟩
    rw [e]
    exact h2 hw
def sIx (n d : Nat) : Option Int -> Nat
  | none => d
  | some v => if v < 0 then (v + (n : Int)).toNat else min v.toNat n
theorem sIx_none (n d : Nat) : sIx n d none = d := rfl
theorem sIx_le (n d : Nat) (hd : d <= n) (o : Option Int) : sIx n d o <= n := by
  cases o with
  | none => exact hd
  | some v =>
    show (if v < 0 then (v + (n : Int)).toNat else min v.toNat n) <= n
    by_cases hv : v < 0
    · rw [if_pos hv]; omega
    · rw [if_neg hv]; exact Nat.min_le_right _ _
theorem clip_eq (v : Int) (n d : Nat) : (if v < 0 then max (v + (n : Int)) 0 else min v (n : Int)) = ((sIx n d (some v) : Nat) : Int) := by
  show (if v < 0 then max (v + (n : Int)) 0 else min v (n : Int)) = (((if v < 0 then (v + (n : Int)).toNat else min v.toNat n) : Nat) : Int)
  by_cases hv : v < 0
  · simp only [if_pos hv]; omega
  · simp only [if_neg hv]; omega
theorem adjust_gen (lo hi : Option Int) (n : Nat) : Builtin.Slice.sliceAdjust lo hi 1 (n : Int) = (((sIx n 0 lo : Nat) : Int), ((sIx n n hi : Nat) : Int)) := by
  have h1 : ¬ ((1 : Int) < 0) := by omega
  unfold Builtin.Slice.sliceAdjust
  simp only [h1, if_false]
  refine Prod.ext ?_ ?_
  · cases lo with
    | none => rfl
    | some v => exact clip_eq v n 0
  · cases hi with
    | none => rfl
    | some v => exact clip_eq v n n
theorem places_gen (i j : Nat) : Builtin.Slice.slicePlaces (i : Int) (j : Int) 1 = j - i := by
  unfold Builtin.Slice.slicePlaces
  have h1 : (1 : Int) > 0 := by omega
  simp only [h1, if_true, Int.ediv_one]
  split <;> omega
theorem slicePart_ {v : Value} {o : Option Int} {Q : Option Int -> Shared -> Prop} (p : IsPart v o) (h : Q o s) : wpAny (model prog w) A (Builtin.Slice.slicePartIndex v) Q E s := by
  cases p with
  | none => exact slicePart_none h
  | int i t => exact slicePart_int h
theorem sliceApplied_gen {sl : Addr} {vl vu : Value} {lo hi : Option Int} {n : Nat} {Q : Int × Int × Nat -> Shared -> Prop} (hs : s.heap.IsSliceOf sl vl vu .none) (pl : IsPart vl lo) (pu : IsPart vu hi)
    (h : Q (((sIx n 0 lo : Nat) : Int), 1, sIx n n hi - sIx n 0 lo) s) : wpAny (model prog w) A (Builtin.Slice.sliceApplied (.ref sl) (pure (n : Int))) Q E s := by
  obtain ⟨os, hos, hcs, hds⟩ := id hs
  unfold Builtin.Slice.sliceApplied Builtin.Slice.sliceFields
  refine wpAny_bind (wpAny_bind (wpAny_field hos hds (x := vl) rfl (wpAny_bind (wpAny_field hos hds (x := vu) rfl (wpAny_bind (wpAny_field hos hds (x := .none) rfl (wpAny_pure ?_)))))))
  refine wpAny_bind (slicePart_none ?_)
  show wpAny _ _ (if ((1 : Int) == 0) = true then _ else _) _ _ s
  rw [if_neg (by decide)]
  refine wpAny_bind (slicePart_ pl (wpAny_bind (slicePart_ pu (wpAny_bind (wpAny_pure ?_)))))
  show wpAny _ _ (match Builtin.Slice.sliceAdjust lo hi 1 (n : Int) with | (lo, hi) => pure (lo, (1 : Int), Builtin.Slice.slicePlaces lo hi 1)) _ _ s
  rw [adjust_gen lo hi n]
  show wpAny _ _ (pure (((sIx n 0 lo : Nat) : Int), (1 : Int), Builtin.Slice.slicePlaces ((sIx n 0 lo : Nat) : Int) ((sIx n n hi : Nat) : Int) 1)) _ _ s
  rw [places_gen]
  exact wpAny_pure h
theorem pick_gen (xs : Array Value) (i k : Nat) : ((List.range k).filterMap fun (m : Nat) => xs[((i : Int) + (m : Int) * 1).toNat]?).toArray = ((xs.toList.drop i).take k).toArray := by
  have e : (fun (m : Nat) => xs[((i : Int) + (m : Int) * 1).toNat]?) = fun m => xs[i + m]? := by
    funext m
    have : ((i : Int) + (m : Int) * 1).toNat = i + m := by omega
    rw [this]
  rw [e]
  have := pick_run xs i k
  rw [List.filterMap_map] at this
  have e2 : ((fun x => xs[x]?) ∘ fun x => i + x) = fun m => xs[i + m]? := rfl
  rw [e2] at this
  rw [this]
theorem getItem_tuple_cut {t sl : Addr} {items : Array Value} {vl vu : Value} {lo hi : Option Int} {Q : Value -> Shared -> Prop} (ht : IsTup s.heap t items) (hs : s.heap.IsSliceOf sl vl vu .none) (pl : IsPart vl lo) (pu : IsPart vu hi)
    (hw : ¬ (sIx items.size 0 lo = 0 /\ sIx items.size items.size hi = items.size))
    (h : Q (.ref s.heap.objs.size) { s with heap := s.heap.push { cls := .type "tuple", data := .seq ((items.toList.drop (sIx items.size 0 lo)).take (sIx items.size items.size hi - sIx items.size 0 lo)).toArray } })
    (hsz : items.size <= sizeLine) : wpAny (model prog w) A (getItem (.ref t) (.ref sl)) Q E s := by
  have htake : sizeOk (.seq ((items.toList.drop (sIx items.size 0 lo)).take (sIx items.size items.size hi - sIx items.size 0 lo)).toArray) := by
    show ((items.toList.drop (sIx items.size 0 lo)).take (sIx items.size items.size hi - sIx items.size 0 lo)).toArray.size <= sizeLine
    rw [List.size_toArray, List.length_take, List.length_drop, Array.length_toList]
    omega
  have hj : sIx items.size items.size hi <= items.size := sIx_le _ _ (Nat.le_refl _) hi
  obtain ⟨os, hos, hcs, hds⟩ := id hs
  have hTs : s.TypeIs (.ref sl) "slice" := ⟨os, hos, hcs⟩
  unfold getItem
  try with_reducible refine wpAny_holding ?_
  first | refine wpAny_bind (wpAny_pure ?_) | skip
  refine wpAny_bind (wpAny_sequenceKey ht.typeIs (by decide) ?_)
  refine wpAny_bind (wpAny_callSpecial?_slot (name := Str.ofString "__getitem__") ht.typeIs PyProof.Rows.slot_tuple_getitem
    (wpAny_call_entry PyProof.Rows.slot_tuple_getitem ht.typeIs entry_tuple_getitem ?_ (args_tuple_getitem _ _)))
  show wpAny _ _ (Builtin.Tuple.tupleItemsOf (.ref t) >>= _) _ _ s
  refine wpAny_bind (tupleItemsOf_ ht ?_)
  refine wpAny_bind (wpAny_typeOf hTs ?_)
  rw [if_pos (by decide)]
  refine wpAny_bind (sliceApplied_gen hs pl pu ?_)
  have hno : ¬ ((((sIx items.size 0 lo : Nat) : Int) == 0 && (1 : Int) == 1 && (sIx items.size items.size hi - sIx items.size 0 lo) == items.size) = true) := by
    intro q
    rw [Bool.and_eq_true, Bool.and_eq_true] at q
    have q1 : ((sIx items.size 0 lo : Nat) : Int) = 0 := eq_of_beq q.1.1
    have q2 : sIx items.size items.size hi - sIx items.size 0 lo = items.size := eq_of_beq q.2
    exact hw ⟨by omega, by omega⟩
  show wpAny _ _ (if (((sIx items.size 0 lo : Nat) : Int) == 0 && (1 : Int) == 1 && (sIx items.size items.size hi - sIx items.size 0 lo) == items.size) = true then _ else _) _ _ s
  rw [if_neg hno, pick_gen]
  first
    | exact wpAny_bind (m := Builtin.Tuple.tupleExact _) (wpAny_newObj_type (wpAny_pure ⟨_, rfl, wpAny_pure h⟩) htake)
    | exact wpAny_bind (m := Builtin.Tuple.tupleExact _) (wpAny_newObj_type (wpAny_bind (wpAny_pure (wpAny_pure ⟨_, rfl, wpAny_pure h⟩))) htake)
    | exact wpAny_bind (wpAny_bind (m := Builtin.Tuple.tupleExact _) (wpAny_newObj_type (wpAny_pure (wpAny_pure ⟨_, rfl, wpAny_pure h⟩)) htake))
    | exact wpAny_bind (wpAny_bind (m := Builtin.Tuple.tupleExact _) (wpAny_newObj_type (wpAny_pure ⟨_, rfl, wpAny_pure h⟩) htake))
end
end HT
namespace L2
open PySem PySem.Spec PyProof.Rows
abbrev TO := St -> Hp -> (Option Int -> Hp -> Prop) -> Prop
def PO (X : Cx) (e : Option Expr) (t : TO) : Prop :=
  ∀ (pins : List (Addr × Obj)) (s : Shared) (σ : St) (H : Hp) (Q : Option Int -> Hp -> Prop), Inv X pins σ H s -> t σ H Q ->
    wpAny (model X.prog X.w) X.A (evalPart e X.env) (fun u s' => ∃ o H', Inv X pins σ H' s' /\ IsPart u o /\ Q o H') X.xe s
def tNoPart : TO := fun _ H Q => Q none H
def tPart (t : TE) : TO := fun σ H Q => t σ H fun x H1 => ∃ i, x = .int i /\ Q (some i) H1
section
variable {X : Cx} {e : Expr} {te : TE} {lo hi : Option Expr} {tl th : TO} {pos p2 : Pos}
theorem po_none : PO X none tNoPart := by
  intro pins s σ H Q I h
  rw [evalPart_none]
  exact wpAny_pure ⟨none, H, I, .none, h⟩
theorem po_some (h : PE X e te) : PO X (some e) (tPart te) := by
  intro pins s σ H Q I hw
  rw [evalPart_some]
  refine thn (h pins s σ H _ I hw) fun u s1 ⟨x, H1, I1, r1, q1⟩ => ?_
  obtain ⟨i, rfl, q⟩ := q1
  obtain ⟨t, rfl⟩ := r1
  exact ⟨some i, H1, I1, .int i t, q⟩
def SlR (X : Cx) (r : V -> Option Int -> Option Int -> Hp -> VK -> Prop) : Prop :=
  ∀ (pins : List (Addr × Obj)) (s : Shared) (σ : St) (H : Hp) (x : V) (v vl vu : Value) (lo hi : Option Int) (sl : Addr) (Q : VK), Inv X pins σ H s -> RelV x v -> s.heap.IsSliceOf sl vl vu .none -> IsPart vl lo -> IsPart vu hi -> r x lo hi H Q ->
    ∃ T id, typeLookup (.type T) "__getitem__" = pure (some (.builtin id)) /\ s.TypeIs v T /\ wpAny (model X.prog X.w) X.A (getItem v (.ref sl)) (EP X pins σ Q) X.xe s
def tSl (r : V -> Option Int -> Option Int -> Hp -> VK -> Prop) (te : TE) (tl th : TO) : TE := fun σ H Q => te σ H fun x H1 => tl σ H1 fun l H2 => th σ H2 fun u H3 => r x l u H3 Q
theorem pe_slice {r : V -> Option Int -> Option Int -> Hp -> VK -> Prop} (hr : SlR X r) (he : PE X e te) (hl : PO X lo tl) (hu : PO X hi th) : PE X (.Subscript e (.Slice lo hi none p2) pos) (tSl r te tl th) := by
  intro pins s σ H Q I h
  refine Subscript_ (thn (he pins s σ H _ I h) fun v s1 ⟨x, H1, I1, r1, q1⟩ => ?_)
  refine wpAny_Slice (thn (hl pins s1 σ H1 _ I1 q1) fun vl s2 ⟨l, H2, I2, pl, q2⟩ => thn (hu pins s2 σ H2 _ I2 q2) fun vu s3 ⟨u, H3, I3, pu, q3⟩ => ?_)
  rw [evalPart_none]
  refine wpAny_pure ?_
  have I4 : Inv X pins σ H3 { s3 with heap := s3.heap.push { cls := .type "slice", data := .fields #[vl, vu, .none] } } := I3.kept (t' := s3.toks) fun b ob q => Heap.get?_push_of_some _ q
  obtain ⟨T, id, hT, ht, hg⟩ := hr pins { s3 with heap := s3.heap.push { cls := .type "slice", data := .fields #[vl, vu, .none] } } σ H3 x v vl vu l u s3.heap.objs.size Q I4 r1 (Heap.IsSliceOf.new ..) pl pu q3
  show wpAny (model X.prog X.w) X.A (subscriptTail e (.Slice lo hi none p2) v (.ref s3.heap.objs.size)) (EP X pins σ Q) X.xe { s3 with heap := s3.heap.push { cls := .type "slice", data := .fields #[vl, vu, .none] } }
  exact tail_any (ops := [.ref s3.heap.objs.size, v]) ht hT hg (by with_unfolding_all rfl)
def cutV (xs : List V) (lo hi : Option Int) : List V := (xs.drop (HT.sIx xs.length 0 lo)).take (HT.sIx xs.length xs.length hi - HT.sIx xs.length 0 lo)
theorem cutV_length (xs : List V) (lo hi : Option Int) : (cutV xs lo hi).length <= xs.length := by
  unfold cutV
  rw [List.length_take, List.length_drop]
  omega
def rSlT (K : PySem.W.Frag) : V -> Option Int -> Option Int -> Hp -> VK -> Prop := fun x lo hi H Q => ∃ a xs, x = .ref a /\ SqT K H a xs /\
  ¬ (HT.sIx xs.length 0 lo = 0 /\ HT.sIx xs.length xs.length hi = xs.length) /\ ∀ p, H p = none -> Q (.ref p) (upd H p (.tup (cutV xs lo hi)))
theorem sl_tup : SlR X (rSlT X.K) := by
  intro pins s σ H x v vl vu lo hi sl Q I rx hs pl pu h
  obtain ⟨a, xs, rfl, hx, hw, q⟩ := h
  cases rx
  obtain ⟨its, r, ht, hz⟩ := I.tuple hx
  have hlen : its.toArray.size = xs.length := by rw [List.size_toArray]; exact r.length.symm
  refine ⟨"tuple", _, PyProof.Rows.slot_tuple_getitem.lookup, ht.typeIs, ?_⟩
  refine HT.getItem_tuple_cut ht hs pl pu (by rw [hlen]; exact hw) ?_ (by rw [hlen]; exact hz)
  rw [hlen]
  refine ⟨.ref s.heap.objs.size, _, I.laid (t' := s.toks) (o := .tup (cutV xs lo hi)) (fun b ob q => Heap.get?_push_of_some _ q) (Nat.le_refl _) ?_, rfl, q _ (I.hok.fresh (Nat.le_refl _))⟩
  exact ⟨Nat.le_trans (cutV_length xs lo hi) hz, _, (r.drop (HT.sIx xs.length 0 lo)).take (HT.sIx xs.length xs.length hi - HT.sIx xs.length 0 lo), IsTup.new _ _⟩
def rCatT (K : PySem.W.Frag) : R2 := fun x y H Q => ∃ a b xs ys, x = .ref a /\ y = .ref b /\ SqT K H a xs /\ SqT K H b ys /\ xs ≠ [] /\ xs.length + ys.length <= sizeLine /\
  (ys = [] -> Q (.ref a) H) /\ (ys ≠ [] -> ∀ p, H p = none -> Q (.ref p) (upd H p (.tup (xs ++ ys))))
theorem Vals.nil_iff {xs : List V} {us : List Value} (r : Vals xs us) : us = [] ↔ xs = [] := by
  cases r with
  | nil => simp
  | cons _ _ => simp
theorem op_catT : OpR X (binaryOp .Add) (rCatT X.K) := by
  intro pins s σ H x y v u Q I rx ry h
  obtain ⟨a, b, xs, ys, rfl, rfl, ha, hb, hx, hz, q1, q2⟩ := h
  cases rx
  cases ry
  obtain ⟨its, r1, p1, _⟩ := I.tuple ha
  obtain ⟨its2, r2, p2, _⟩ := I.tuple hb
  refine HT.cat_tup p1 p2 (fun z => hx (r1.nil_iff.mp z)) (fun z => ⟨.ref a, H, I, rfl, q1 (r2.nil_iff.mp z)⟩) (fun z => ?_) (by rw [<- r1.length, <- r2.length]; exact hz)
  refine ⟨.ref s.heap.objs.size, _, I.laid (t' := s.toks) (o := .tup (xs ++ ys)) (fun b ob q => Heap.get?_push_of_some _ q) (Nat.le_refl _) ?_, rfl, q2 (fun w => z (r2.nil_iff.mpr w)) _ (I.hok.fresh (Nat.le_refl _))⟩
  exact ⟨by rw [List.length_append]; exact hz, _, r1.append r2, IsTup.new _ _⟩
end
end L2
namespace L2
open PySem PySem.Spec PyProof.Rows
def ixN (n : Nat) (i : Int) : Option Nat := if 0 <= i then (if i < n then some i.toNat else none) else if -(n : Int) <= i then some (i + n).toNat else none
def atI {α : Type} (xs : List α) (i : Int) : Option α := (ixN xs.length i).bind fun j => xs[j]?
theorem ixN_seq {n : Nat} {i : Int} {j : Nat} (h : ixN n i = some j) : seqIndex? i n = some j /\ j < n /\ -(n : Int) <= i /\ i < n := by
  unfold ixN at h
  by_cases h0 : 0 <= i
  · rw [if_pos h0] at h
    by_cases h1 : i < n
    · rw [if_pos h1] at h
      have e : i.toNat = j := Option.some.inj h
      exact ⟨by rw [seqIndex_of h0 h1, e], by omega, by omega, h1⟩
    · rw [if_neg h1] at h; cases h
  · rw [if_neg h0] at h
    by_cases h1 : -(n : Int) <= i
    · rw [if_pos h1] at h
      have e : (i + n).toNat = j := Option.some.inj h
      exact ⟨by rw [seqIndex_neg (by omega) h1, e], by omega, h1, by omega⟩
    · rw [if_neg h1] at h; cases h
theorem atI_get {α : Type} {xs : List α} {i : Int} {v : α} (h : atI xs i = some v) : ∃ j, seqIndex? i xs.length = some j /\ xs[j]? = some v /\ j < xs.length /\ -(xs.length : Int) <= i /\ i < xs.length := by
  unfold atI at h
  cases e : ixN xs.length i with
  | none => rw [e] at h; cases h
  | some j =>
    rw [e] at h
    obtain ⟨h1, h2, h3, h4⟩ := ixN_seq e
    exact ⟨j, h1, h, h2, h3, h4⟩
theorem atI_nat {α : Type} {xs : List α} {j : Nat} {v : α} (h : xs[j]? = some v) : atI xs (j : Int) = some v := by
  have hj : j < xs.length := (List.getElem?_eq_some_iff.mp h).1
  have e : ixN xs.length (j : Int) = some j := by
    unfold ixN
    rw [if_pos (by omega), if_pos (by omega)]; simp
  unfold atI; rw [e]; exact h
def PlainIx (b : Expr) : Prop := ∀ o i, subscripted b false o i = operate [o, i] (getItem o i)
def IxR (X : Cx) (r : R2) : Prop :=
  ∀ (value slice : Expr) (pins : List (Addr × Obj)) (s : Shared) (σ : St) (H : Hp) (x y : V) (v u : Value) (Q : VK), Inv X pins σ H s -> RelV x v -> RelV y u -> r x y H Q ->
    subscripted slice false v u = operate [v, u] (getItem v u) -> wpAny (model X.prog X.w) X.A (subscriptTail value slice v u) (EP X pins σ Q) X.xe s
def MtR (X : Cx) (id : String) (r : V -> List V -> Hp -> VK -> Prop) : Prop :=
  ∀ (pins : List (Addr × Obj)) (s : Shared) (σ : St) (H : Hp) (x : V) (xs : List V) (v : Value) (us : List Value) (Q : VK), Inv X pins σ H s -> RelV x v -> Vals xs us -> r x xs H Q ->
    wpAny (model X.prog X.w) X.A (call (.builtin id) (v :: us)) (EP X pins σ Q) X.xe s
section
variable {X : Cx} {a b : Expr} {ta tb : TE} {pos : Pos}
theorem pe_ix {r : R2} (hr : IxR X r) (ha : PE X a ta) (hb : PE X b tb) (hs : PlainIx b) : PE X (.Subscript a b pos) (tOp r ta tb) := by
  intro pins s σ H Q I h
  exact Subscript_ (binT ha hb I h fun v u s2 x y H2 I2 rx ry q => hr a b pins s2 σ H2 x y v u Q I2 rx ry q (hs _ _))
def rIxL (K : PySem.W.Frag) : R2 := fun x y H Q => ∃ p xs i v, x = .ref p /\ y = .int i /\ SqL K H p xs /\ atI xs i = some v /\ Q v H
def rIxT (K : PySem.W.Frag) : R2 := fun x y H Q => ∃ p xs i v, x = .ref p /\ y = .int i /\ SqT K H p xs /\ atI xs i = some v /\ Q v H
def rIxS : R2 := fun x y H Q => ∃ z i c, x = .str z /\ y = .int i /\ z.length <= sizeLine /\ atI z.cps.toList i = some c /\ Q (.str ⟨#[c]⟩) H
theorem ix_list : IxR X (rIxL X.K) := by
  intro value slice pins s σ H x y v u Q I rx ry h hs
  obtain ⟨p, xs, i, z, rfl, rfl, hq, he, q⟩ := h
  cases rx
  obtain ⟨t, rfl⟩ := ry
  obtain ⟨its, r, pl, hz⟩ := I.list hq
  obtain ⟨j, h1, h2, h3, h4, h5⟩ := atI_get he
  obtain ⟨w, ew, rw'⟩ := r.get h2
  have hl := r.length
  have hn := line63
  have fin : EP X pins σ Q w s := ⟨z, H, I, rw', q⟩
  by_cases h0 : 0 <= i
  · have hj : i.toNat = j := by
      rw [seqIndex_of h0 h5] at h1
      exact Option.some.inj h1
    exact item_listR pl.isList h0 (by omega) (by rw [hj]; simpa using ew) fin hs
  · have hj : (i + (its.toArray.size : Int)).toNat = j := by
      rw [seqIndex_neg (by omega) h4] at h1
      rw [List.size_toArray, <- hl]
      exact Option.some.inj h1
    exact subscriptTail_builtinR (x := w) pl.isList.typeIs slot_list_getitem.lookup
      (wpAny_getItem_list_neg (Q := fun r s' => r = w /\ EP X pins σ Q r s') pl.isList (by omega) (by rw [List.size_toArray] <;> omega) (by omega) (by rw [hj]; simpa using ew) ⟨rfl, fin⟩) hs
theorem ix_tup : IxR X (rIxT X.K) := by
  intro value slice pins s σ H x y v u Q I rx ry h hs
  obtain ⟨p, xs, i, z, rfl, rfl, hq, he, q⟩ := h
  cases rx
  obtain ⟨t, rfl⟩ := ry
  obtain ⟨its, r, pl, hz⟩ := I.tuple hq
  obtain ⟨j, h1, h2, h3, h4, h5⟩ := atI_get he
  obtain ⟨w, ew, rw'⟩ := r.get h2
  have hl := r.length
  have hn := line63
  have fin : EP X pins σ Q w s := ⟨z, H, I, rw', q⟩
  exact subscriptTail_builtinR (x := w) pl.typeIs slot_tuple_getitem.lookup
    (getItem_tuple (j := j) (Q := fun r s' => r = w /\ EP X pins σ Q r s') pl (by omega) (by omega) (by rw [List.size_toArray, <- hl]; exact h1) (by simpa using ew) ⟨rfl, fin⟩) hs
theorem ix_str : IxR X rIxS := by
  intro value slice pins s σ H x y v u Q I rx ry h hs
  obtain ⟨z, i, c, rfl, rfl, hz, he, q⟩ := h
  obtain ⟨t, rfl⟩ := rx
  obtain ⟨t', rfl⟩ := ry
  obtain ⟨j, h1, h2, h3, h4, h5⟩ := atI_get he
  have hl : z.cps.toList.length = z.length := by simp [Str.length]
  rw [hl] at h1 h4 h5
  have hn := line63
  exact tail_any (typeIs_str s z t) slot_str_getitem.lookup (getItem_str (c := c) (by
    have e1 : decide (i < -(2 ^ 63 : Int)) = false := decide_eq_false (by omega)
    have e2 : decide (i ≥ 2 ^ 63) = false := decide_eq_false (by omega)
    rw [e1, e2, Bool.or_false]) (by rw [h1]; simpa using h2) ⟨.str ⟨#[c]⟩, H, I.tok _, ⟨_, rfl⟩, q⟩) hs
theorem slice_bounds (lo hi : Option Int) (n : Nat) : (sliceBounds lo hi none n).1 = ((HT.sIx n 0 lo : Nat) : Int) /\ (sliceBounds lo hi none n).2.1 = ((HT.sIx n n hi : Nat) : Int) /\ (sliceBounds lo hi none n).2.2 = 1 := by
  refine ⟨?_, ?_, rfl⟩
  · cases lo with
    | none => simp [sliceBounds, HT.sIx]
    | some i =>
      simp only [sliceBounds, HT.sIx, Option.getD_none, show (1 : Int) > 0 by decide, if_true]
      by_cases h : i < 0
      · simp only [h, if_true] <;> omega
      · simp only [h, if_false] <;> omega
  · cases hi with
    | none => simp [sliceBounds, HT.sIx]
    | some i =>
      simp only [sliceBounds, HT.sIx, Option.getD_none, show (1 : Int) > 0 by decide, if_true]
      by_cases h : i < 0
      · simp only [h, if_true] <;> omega
      · simp only [h, if_false] <;> omega
theorem slicePick_cut (its : List Value) (lo hi : Option Int) : slicePick its.toArray lo hi none = ((its.drop (HT.sIx its.length 0 lo)).take (HT.sIx its.length its.length hi - HT.sIx its.length 0 lo)).toArray := by
  obtain ⟨h1, h2, h3⟩ := slice_bounds lo hi its.toArray.size
  unfold slicePick
  rw [h1, h2, h3]
  simp only [sliceRange_one, pick_run, List.size_toArray] <;> rfl
def rSlL (K : PySem.W.Frag) : V -> Option Int -> Option Int -> Hp -> VK -> Prop := fun x lo hi H Q => ∃ a xs, x = .ref a /\ SqL K H a xs /\ ∀ p, H p = none -> Q (.ref p) (upd H p (.lst (cutV xs lo hi)))
theorem sl_list : SlR X (rSlL X.K) := by
  intro pins s σ H x v vl vu lo hi sl Q I rx hs pl pu h
  obtain ⟨a, xs, rfl, hx, q⟩ := h
  cases rx
  obtain ⟨its, r, ht, hz⟩ := I.list hx
  have hlen := r.length
  refine ⟨"list", _, slot_list_getitem.lookup, ht.isList.typeIs, ?_⟩
  refine wpAny_getItem_list_slice ht.isList hs pl pu .none (by simp) ?_ (by rw [List.size_toArray] <;> omega)
  rw [slicePick_cut, <- hlen]
  refine ⟨.ref s.heap.objs.size, _, I.laid (t' := s.toks) (o := .lst (cutV xs lo hi)) (fun b ob q => Heap.get?_push_of_some _ q) (Nat.le_refl _) ?_, rfl, q _ (I.hok.fresh (Nat.le_refl _))⟩
  exact ⟨Nat.le_trans (cutV_length xs lo hi) hz, _, 0, (r.drop (HT.sIx xs.length 0 lo)).take (HT.sIx xs.length xs.length hi - HT.sIx xs.length 0 lo), Heap.get?_push_size _ rfl⟩
def flatV : V -> Bool
  | .non => true
  | .bl _ => true
  | .int _ => true
  | .str _ => true
  | _ => false
def eqV : V -> V -> Bool
  | .non, .non => true
  | .bl a, .bl b => a == b
  | .bl a, .int b => (if a then 1 else 0) == b
  | .int a, .bl b => a == (if b then 1 else 0)
  | .int a, .int b => a == b
  | .str a, .str b => a == b
  | _, _ => false
theorem eqAt_V {A : Around} {s : Shared} {y x : V} {u v : Value} (ry : RelV y u) (rx : RelV x v) (fy : flatV y = true) (fx : flatV x = true) : SeqAt.EqAt A s u v (eqV y x) := by
  cases y with
  | non =>
    cases ry
    cases x with
    | non => cases rx; exact SeqAt.EqAt.same _
    | bl b => cases rx; exact SeqAt.EqAt.none_bool b
    | int b => obtain ⟨t, rfl⟩ := rx; exact SeqAt.EqAt.none_int b t
    | str b => obtain ⟨t, rfl⟩ := rx; exact SeqAt.EqAt.none_str b t
    | _ => exact absurd (show false = true from fx) Bool.false_ne_true
  | bl a =>
    cases ry
    cases x with
    | non => cases rx; exact SeqAt.EqAt.bool_none a
    | bl b => cases rx; exact SeqAt.EqAt.bool_bool a b
    | int b => obtain ⟨t, rfl⟩ := rx; exact SeqAt.EqAt.bool_int a b t
    | str b => obtain ⟨t, rfl⟩ := rx; exact SeqAt.EqAt.bool_str a b t
    | _ => exact absurd (show false = true from fx) Bool.false_ne_true
  | int a =>
    obtain ⟨t', rfl⟩ := ry
    cases x with
    | non => cases rx; exact SeqAt.EqAt.int_none a t'
    | bl b => cases rx; exact SeqAt.EqAt.int_bool a t' b
    | int b => obtain ⟨t, rfl⟩ := rx; exact SeqAt.EqAt.int_int a t' b t
    | str b => obtain ⟨t, rfl⟩ := rx; exact SeqAt.EqAt.int_str a t' b t
    | _ => exact absurd (show false = true from fx) Bool.false_ne_true
  | str a =>
    obtain ⟨t', rfl⟩ := ry
    cases x with
    | non => cases rx; exact SeqAt.EqAt.str_none a t'
    | bl b => cases rx; exact SeqAt.EqAt.str_bool a t' b
    | int b => obtain ⟨t, rfl⟩ := rx; exact SeqAt.EqAt.str_int a t' b t
    | str b => obtain ⟨t, rfl⟩ := rx; exact SeqAt.EqAt.str_str a t' b t
    | _ => exact absurd (show false = true from fx) Bool.false_ne_true
  | _ => exact absurd (show false = true from fy) Bool.false_ne_true
def eqU (x : V) (u : Value) : Bool := match u with
  | .none => eqV .non x
  | .bool b => eqV (.bl b) x
  | .int i _ => eqV (.int i) x
  | .str z _ => eqV (.str z) x
  | _ => false
theorem eqU_of {x y : V} {u : Value} (r : RelV y u) (f : flatV y = true) : eqU x u = eqV y x := by
  cases y with
  | non => cases r; rfl
  | bl b => cases r; rfl
  | int i => obtain ⟨t, rfl⟩ := r; rfl
  | str z => obtain ⟨t, rfl⟩ := r; rfl
  | _ => exact absurd (show false = true from f) Bool.false_ne_true
theorem any_eqU {x : V} : ∀ {xs : List V} {us : List Value}, Vals xs us -> xs.all flatV = true -> us.any (eqU x) = xs.any fun y => eqV y x
  | _, _, .nil, _ => rfl
  | y :: xs, u :: us, .cons r t, f => by
    rw [List.all_cons, Bool.and_eq_true] at f
    rw [List.any_cons, List.any_cons, eqU_of r f.1, any_eqU t f.2]
theorem mem_eqAt {A : Around} {s : Shared} {x : V} {v : Value} (rx : RelV x v) (fx : flatV x = true) : ∀ {xs : List V} {us : List Value}, Vals xs us -> xs.all flatV = true -> ∀ u ∈ us, SeqAt.EqAt A s u v (eqU x u)
  | _, _, .nil, _ => fun u hu => by cases hu
  | y :: xs, u :: us, .cons r t, f => fun u' hu => by
    rw [List.all_cons, Bool.and_eq_true] at f
    rcases List.mem_cons.mp hu with rfl | hu
    · rw [eqU_of r f.1]; exact eqAt_V r rx f.1 fx
    · exact mem_eqAt rx fx t f.2 u' hu
def inV (x : V) (xs : List V) : Bool := xs.any fun y => eqV y x
def rIn (K : PySem.W.Frag) (neg : Bool) : R2 := fun x y H Q => ∃ p xs, y = .ref p /\ (SqL K H p xs \/ SqT K H p xs) /\ flatV x = true /\ xs.all flatV = true /\ Q (.bl (if neg then !inV x xs else inV x xs)) H
theorem op_in_seq : OpR X (compareOp .In) (rIn X.K false) := by
  intro pins s σ H x y v u Q I rx ry h
  obtain ⟨p, xs, rfl, hq, fx, fs, q⟩ := h
  cases ry
  rcases hq with hq | hq
  · obtain ⟨its, r, pl, hz⟩ := I.list hq
    refine SeqAt.in_listAt (eqU x) pl.isList (fun w hw => mem_eqAt rx fx r fs w (by simpa using hw)) ⟨.bl _, H, I, rfl, ?_⟩
    rw [show its.toArray.any (eqU x) = its.any (eqU x) by simp, any_eqU r fs]
    exact q
  · obtain ⟨its, r, pl, hz⟩ := I.tuple hq
    refine SeqAt.in_tupleAt (eqU x) pl (fun w hw => mem_eqAt rx fx r fs w (by simpa using hw)) ⟨.bl _, H, I, rfl, ?_⟩
    rw [show its.toArray.any (eqU x) = its.any (eqU x) by simp, any_eqU r fs]
    exact q
theorem op_notIn_seq : OpR X (compareOp .NotIn) (rIn X.K true) := by
  intro pins s σ H x y v u Q I rx ry h
  obtain ⟨p, xs, rfl, hq, fx, fs, q⟩ := h
  cases ry
  rcases hq with hq | hq
  · obtain ⟨its, r, pl, hz⟩ := I.list hq
    refine SeqAt.notIn_listAt (eqU x) pl.isList (fun w hw => mem_eqAt rx fx r fs w (by simpa using hw)) ⟨.bl _, H, I, rfl, ?_⟩
    rw [show its.toArray.any (eqU x) = its.any (eqU x) by simp, any_eqU r fs]
    exact q
  · obtain ⟨its, r, pl, hz⟩ := I.tuple hq
    refine SeqAt.notIn_tupleAt (eqU x) pl (fun w hw => mem_eqAt rx fx r fs w (by simpa using hw)) ⟨.bl _, H, I, rfl, ?_⟩
    rw [show its.toArray.any (eqU x) = its.any (eqU x) by simp, any_eqU r fs]
    exact q
theorem call_len_seq : CallR X (.builtin "len") (fun xs H Q => ∃ p ys, xs = [.ref p] /\ (SqL X.K H p ys \/ SqT X.K H p ys) /\ Q (.int ys.length) H) := by
  intro pins s σ H xs us Q I r h
  obtain ⟨p, ys, rfl, hq, q⟩ := h
  obtain ⟨u, rfl, rx⟩ := vals1 r
  cases rx
  have hn := line63
  rcases hq with hq | hq
  · obtain ⟨its, r', pl, hz⟩ := I.list hq
    have hlen := r'.length
    exact Calls.call_len_list pl.isList (by simp only [List.size_toArray] <;> omega) ⟨.int ys.length, H, I.tok _, ⟨s.toks + 1, by rw [List.size_toArray, hlen]⟩, q⟩
  · obtain ⟨its, r', pl, hz⟩ := I.tuple hq
    have hlen := r'.length
    exact len_tuple pl (by simp only [List.size_toArray] <;> omega) ⟨.int ys.length, H, I.tok _, ⟨s.toks + 1, by rw [List.size_toArray, hlen]⟩, q⟩
theorem call_len_str : CallR X (.builtin "len") (fun xs H Q => ∃ z, xs = [.str z] /\ z.length <= sizeLine /\ Q (.int z.length) H) := by
  intro pins s σ H xs us Q I r h
  obtain ⟨z, rfl, hz, q⟩ := h
  obtain ⟨u, rfl, t, rfl⟩ := vals1 r
  have hn := line63
  exact len_str (by omega) ⟨.int z.length, H, I.tok _, ⟨_, rfl⟩, q⟩
theorem call_list_of : CallR X (.type "list") (fun xs H Q => ∃ p ys, xs = [.ref p] /\ (SqL X.K H p ys \/ SqT X.K H p ys) /\ ∀ l, H l = none -> Q (.ref l) (upd H l (.lst ys))) := by
  intro pins s σ H xs us Q I r h
  obtain ⟨p, ys, rfl, hq, q⟩ := h
  obtain ⟨u, rfl, rx⟩ := vals1 r
  cases rx
  have fin : ∀ (its : List Value), Vals ys its -> ys.length <= sizeLine -> ∀ (h' : Heap) (c' : Nat), (∀ b o', s.heap.get? b = some o' -> h'.get? b = some o') ->
      h'.get? s.heap.objs.size = some { cls := .type "list", dict := none, data := .seq its.toArray c', slots := #[] } -> EP X pins σ Q (.ref s.heap.objs.size) { s with heap := h' } := fun its r' hz h' c' kp e =>
    ⟨.ref s.heap.objs.size, _, I.laid (t' := s.toks) kp (Nat.le_refl _) (show ObjOk X.prog X.w _ h' _ (.lst ys) from ⟨hz, its, c', r', e⟩), rfl, q _ (I.hok.fresh (Nat.le_refl _))⟩
  rcases hq with hq | hq
  · obtain ⟨its, r', pl, hz⟩ := I.list hq
    have hlen := r'.length
    obtain ⟨o, ho, hc, n, hd⟩ := pl.isList
    exact call_list_seq p (.inl rfl) ho hc hd (fun h' c' kp e => fin its r' hz h' c' kp e) (by simp only [List.size_toArray] <;> omega)
  · obtain ⟨its, r', pl, hz⟩ := I.tuple hq
    have hlen := r'.length
    obtain ⟨o, ho, hc, n, hd⟩ := pl
    exact call_list_seq p (.inr rfl) ho hc hd (fun h' c' kp e => fin its r' hz h' c' kp e) (by simp only [List.size_toArray] <;> omega)
theorem call_tuple_of : CallR X (.type "tuple") (fun xs H Q => ∃ p ys, xs = [.ref p] /\ ((SqL X.K H p ys /\ ∀ l, H l = none -> Q (.ref l) (upd H l (.tup ys))) \/ (SqT X.K H p ys /\ Q (.ref p) H))) := by
  intro pins s σ H xs us Q I r h
  obtain ⟨p, ys, rfl, h⟩ := h
  obtain ⟨u, rfl, rx⟩ := vals1 r
  cases rx
  rcases h with ⟨hq, q⟩ | ⟨hq, q⟩
  · obtain ⟨its, r', pl, hz⟩ := I.list hq
    have hlen := r'.length
    refine call_tuple_list pl.isList (fun h' kp => ?_) (by simp only [List.size_toArray] <;> omega)
    have I1 : Inv X pins σ H { s with heap := h' } := I.kept (t' := s.toks) kp
    have I2 : Inv X pins σ (upd H h'.objs.size (.tup ys)) { s with heap := h'.push { cls := .type "tuple", data := .seq its.toArray } } :=
      I1.laid (t' := s.toks) (fun b o e => Heap.get?_push_of_some _ e) (Nat.le_refl _) (show ObjOk X.prog X.w _ _ _ (.tup ys) from ⟨hz, its, r', IsTup.new _ _⟩)
    exact ⟨.ref h'.objs.size, _, I2, rfl, q _ (I1.hok.fresh (Nat.le_refl _))⟩
  · obtain ⟨its, r', pl, hz⟩ := I.tuple hq
    exact call_tuple_same pl ⟨.ref p, H, I, rfl, q⟩
def tyV (K : PySem.W.Frag) (T : String) (x : V) (H : Hp) : Prop := match x with
  | .str _ => T = "str"
  | .int _ => T = "int"
  | .ref p => (T = "list" /\ ∃ xs, SqL K H p xs) \/ (T = "tuple" /\ ∃ o, K.lookup p = some o /\ o.cls = .type "tuple" /\ o.dict = none) \/
      (T = "dict" /\ ((∃ kvs, H p = some (.dK kvs)) \/ ∃ kvs, H p = some (.dT kvs))) \/ (T = "set" /\ ∃ S n, H p = some (.set S n))
  | _ => False
theorem tyV_is {pins : List (Addr × Obj)} {σ : St} {H : Hp} {s : Shared} {T : String} {x : V} {v : Value} (I : Inv X pins σ H s) (r : RelV x v) (ty : tyV X.K T x H) :
    s.TypeIs v T /\ ∀ a, v = .ref a -> ∃ ob, s.heap.get? a = some ob /\ ob.dict = none := by
  cases x with
  | str z =>
    obtain ⟨t, rfl⟩ := r
    cases (show T = "str" from ty)
    exact ⟨typeIs_str s z t, fun _ e => nomatch e⟩
  | int i =>
    obtain ⟨t, rfl⟩ := r
    cases (show T = "int" from ty)
    exact ⟨typeIs_int s i t, fun _ e => nomatch e⟩
  | ref p =>
    cases r
    rcases ty with ⟨rfl, xs, hq⟩ | ⟨rfl, o, hk, hc, hd⟩ | ⟨rfl, hk⟩ | ⟨rfl, S, n, hk⟩
    · obtain ⟨its, _, pl, _⟩ := I.list hq
      refine ⟨pl.isList.typeIs, fun a e => ?_⟩
      cases e
      obtain ⟨o, n, e, c, hd, _⟩ := pl
      exact ⟨o, e, hd⟩
    · refine ⟨⟨o, I.kIn p o hk, hc⟩, fun a e => ?_⟩
      cases e
      exact ⟨o, I.kIn _ o hk, hd⟩
    · have z : ∃ o, s.heap.get? p = some o /\ o.ExactDict := by
        rcases hk with ⟨kvs, hk⟩ | ⟨kvs, hk⟩
        · obtain ⟨_, _, _, _, o, _, _, e, ex, _⟩ := I.hok p _ hk
          exact ⟨o, e, ex⟩
        · obtain ⟨_, _, _, _, o, _, _, e, ex, _⟩ := I.hok p _ hk
          exact ⟨o, e, ex⟩
      obtain ⟨o, e, ex⟩ := z
      refine ⟨⟨o, e, ex.1⟩, fun a e2 => ?_⟩
      cases e2
      exact ⟨o, e, ex.2.1⟩
    · obtain ⟨o, _, _, _, e, ex, _⟩ := I.hok p _ hk
      refine ⟨⟨o, e, ex.1⟩, fun a e2 => ?_⟩
      cases e2
      exact ⟨o, e, ex.2.1⟩
  | _ => exact False.elim ty
def tBM (K : PySem.W.Frag) (T : String) (r : V -> List V -> Hp -> VK -> Prop) (to : TE) (t : TA) : TE := fun σ H Q => to σ H fun x H1 => tyV K T x H1 /\ t σ H1 fun xs H2 => r x xs H2 Q
variable {o e : Expr} {es : List Expr} {to : TE} {t : TA} {name : Str} {apos cpos : Pos} {T id : String} {r : V -> List V -> Hp -> VK -> Prop}
theorem pe_bm (pa : PlainAttrs T) (slot : Slot T name id) (hty : typeOf (.builtin id) = pure (.type "method_descriptor")) (hm : MtR X id r) (ho : PE X o to) (ha : PA X (e :: es) t)
    (hbase : attributeBase o name X.env (eval o X.env) = eval o X.env := by rfl)
    (hfew : ((backTo cpos (starEach (e :: es) X.env)).all (fun x => !x.1) && (backToKw cpos (keywordEach [] X.env)).all (fun x => x.1.isSome)
      && decide ((e :: es).length + ([] : List Keyword).length + (if ([] : List Keyword).isEmpty then 0 else 1) < 30)) = true := by rfl)
    (hline : (apos.endLine == cpos.line) = true := by rfl) (hs : starEach (e :: es) X.env = (false, eval e X.env) :: starEach es X.env := by rfl) (hplain : (backTo cpos (starEach es X.env)).any (·.1) = false := by rfl) :
    PE X (.Call (.Attribute o name apos) (e :: es) [] cpos) (tBM X.K T r to t) := by
  intro pins s σ H Q I h
  refine wpAny_Call_method_late hbase hfew hline rfl (thn (ho pins s σ H _ I h) fun v s1 ⟨x, H1, I1, r1, ty, q1⟩ => ?_)
  obtain ⟨h1, h2⟩ := tyV_is I1 r1 ty
  refine ⟨T, id, pa, slot, hty, h1, h2, ?_⟩
  have hA := ha cpos pins s1 σ H1 _ I1 q1
  rw [hs] at hA ⊢
  refine Calls.callWith_builtin (by show (false || (backTo cpos (starEach es X.env)).any (·.1)) = false; rw [hplain] <;> rfl) (Calls.evalArgs_plain ?_)
  exact thn hA fun us s2 ⟨vs, H2, I2, r2, q2⟩ => hm pins s2 σ H2 x vs v us Q I2 r1 r2 q2
end
end L2
namespace L2
open PySem PySem.Spec PyProof.Rows
def MtM (X : Cx) (id : String) (r : V -> List V -> Hp -> VK -> Prop) : Prop :=
  ∀ (pins : List (Addr × Obj)) (s : Shared) (σ : St) (H : Hp) (x : V) (xs : List V) (v : Value) (us : List Value) (Q : VK), Inv X pins σ H s -> RelV x v -> Vals xs us -> r x xs H Q ->
    wpAny (model X.prog X.w) X.A (call (.builtin id) (v :: us)) (EP X pins σ Q) X.xe s
theorem Vals.one : ∀ {x : V} {us : List Value}, Vals [x] us -> ∃ u, us = [u] /\ RelV x u
  | _, _, .cons r .nil => ⟨_, rfl, r⟩
section
variable {X : Cx} {pins : List (Addr × Obj)} {σ : St} {H : Hp} {s : Shared} {l b : Addr} {xs ys zs : List V}
theorem Inv.lset {its its' : List Value} {n : Nat} {f : Array Value -> Array Value} {t' : Nat} (I : Inv X pins σ H s) (hH : H l = some (.lst xs))
    (e : s.heap.get? l = some { cls := .type "list", data := .seq its.toArray n }) (hf : f its.toArray = its'.toArray) (hv : Vals ys its') (hz : ys.length <= sizeLine) :
    Inv X pins σ (upd H l (.lst ys)) { s with heap := s.heap.update l (Obj.mapSeq f), toks := t' } := by
  have q := PySem.IsL.update e f
  rw [hf] at q
  refine I.write (x := l) (e := l) (by rw [hH]; exact trivial) (.inl rfl) (fun b' u hb hu => (Heap.get?_update_other s.heap (Obj.mapSeq f) (Ne.symm hb)).trans hu) ⟨_, q⟩ ?_
  exact ⟨hz, its', _, hv, q⟩
theorem Inv.lnew {its : List Value} {t' : Nat} (I : Inv X pins σ H s) (hv : Vals ys its) (hz : ys.length <= sizeLine) :
    Inv X pins σ (upd H s.heap.objs.size (.lst ys)) { s with heap := s.heap.push { cls := .type "list", data := .seq its.toArray }, toks := t' } :=
  I.laid (fun _ _ q => Heap.get?_push_of_some _ q) (Nat.le_refl _) ⟨hz, its, 0, hv, Heap.get?_push_size _ rfl⟩
theorem Inv.fresh (I : Inv X pins σ H s) : H s.heap.objs.size = none := I.hok.fresh (Nat.le_refl _)
theorem Inv.lstM (I : Inv X pins σ H s) (hH : H l = some (.lst xs)) : xs.length <= sizeLine /\ ∃ (its : List Value) (n : Nat), Vals xs its /\ xs.length = its.length /\ s.heap.get? l = some { cls := .type "list", data := .seq its.toArray n } := by
  obtain ⟨z, its, n, r, e⟩ := I.hok l _ hH
  exact ⟨z, its, n, r, r.length, e⟩
end
section
variable {X : Cx}
def rAppend : V -> List V -> Hp -> VK -> Prop := fun x vs H Q => ∃ l xs y, x = .ref l /\ vs = [y] /\ H l = some (.lst xs) /\ xs.length < sizeLine /\ Q .non (upd H l (.lst (xs ++ [y])))
theorem mt_append : MtM X "list.append" rAppend := by
  intro pins s σ H x vs v us Q I rx rv h
  obtain ⟨l, xs, y, rfl, rfl, hH, hz, q⟩ := h
  cases rx
  obtain ⟨u, rfl, ru⟩ := rv.one
  obtain ⟨z, its, n, r, hl, e⟩ := I.lstM hH
  refine call_meets F.slot_list_append ⟨_, e, rfl⟩ F.entry_list_append (F.args_list_append_2 _ _) (PySem.list_append l its.toArray n u (by rw [List.size_toArray]; omega)) ⟨e, ?_⟩
  refine ⟨.non, _, I.lset (its' := its ++ [u]) hH e (by simp) (r.append (.cons ru .nil)) ?_, rfl, q⟩
  rw [List.length_append, List.length_singleton]
  omega
def rCat : R2 := fun x y H Q => ∃ l b xs zs, x = .ref l /\ y = .ref b /\ H l = some (.lst xs) /\ H b = some (.lst zs) /\ xs.length + zs.length <= sizeLine /\ ∀ p, H p = none -> Q (.ref p) (upd H p (.lst (xs ++ zs)))
theorem op_cat : OpR X (binaryOp .Add) rCat := by
  intro pins s σ H x y v u Q I rx ry h
  obtain ⟨l, b, xs, zs, rfl, rfl, hH, hB, hz, q⟩ := h
  cases rx
  cases ry
  obtain ⟨z, its, n, r, hl, e⟩ := I.lstM hH
  obtain ⟨z2, its2, n2, r2, hl2, e2⟩ := I.lstM hB
  refine PySem.P.add_list e e2 ?_ (by rw [List.size_toArray, List.size_toArray]; omega)
  have ea : its.toArray ++ its2.toArray = (its ++ its2).toArray := by simp
  rw [ea]
  exact ⟨.ref _, _, I.lnew (t' := s.toks) (r.append r2) (by rw [List.length_append]; omega), rfl, q _ I.fresh⟩
end
section
variable {prog : Program} {w : World} {A : Around} {E : Value -> Shared -> Prop} {s : Shared}
end
section
variable {X : Cx}
end
end L2
namespace Att
open PySem PySem.W PySem.Calls PyProof.Rows
theorem ints_of_wellAll {P : Params} {h : Heap} : ∀ (ns : List Int) (vs : List Value), WellAll P h vs (ns.map WData.int) -> IntsAre vs ns := by
  intro ns
  induction ns with
  | nil =>
    intro vs w
    rw [List.map_nil] at w
    cases w
    exact .nil
  | cons n ns ih =>
    intro vs w
    rw [List.map_cons] at w
    cases w with
    | cons a b =>
      cases a
      exact .cons _ _ (ih _ b)
theorem script_of {l : OpenLaw} {n : Nat} (hn : l.most = some n) {P : Params} {h : Heap} {args : List WData} {vals : List Value}
    (hpre : l.row.toRowW.claim.pre args = true) (hwl : WellAll P h vals args) :
    ∃ a vs ns, vals = [Value.ref a] /\ args = [WData.list (ns.map WData.int)] /\ h.get? a = some { cls := .type "list", data := .seq vs.toArray } /\ IntsAre vs ns /\ ns.length <= n := by
  have hsh : WShape.hasAll [] args [.list .int] = true := (pre_splitW hpre).1
  have hc : l.pre.holds [] { args := args } = true := (pre_splitW hpre).2
  obtain ⟨d, r, rfl, h1, h2⟩ := hasAllW_cons hsh
  obtain rfl := hasAllW_nil h2
  obtain ⟨xs, rfl, h3⟩ := hasW_list h1
  obtain ⟨ns, rfl⟩ := items_int h3
  have hlen : ns.length <= n := by
    unfold OpenLaw.pre at hc
    have h4 : (WTm.not (.lt (.lit (.int (n : Int))) (.len (.arg 0)))).holds [] { args := [.list (ns.map .int)] } = true := by
      have h4 := (holds_andW hc).1
      rw [hn] at h4
      exact h4
    have h5 := condW_of h4 (w_not (w_lt w_lit (w_len_list (w_arg rfl))))
    rw [List.length_map] at h5
    refine Nat.le_of_not_lt fun q => ?_
    have q' : (n : Int) < ((ns.length : Nat) : Int) := by omega
    first
      | (rw [decide_eq_true q'] at h5; exact absurd h5 (by decide))
      | (simp at h5; omega)
  cases hwl with
  | cons w1 w2 =>
    cases w2
    cases w1 with
    | list ho hall => exact ⟨_, _, ns, rfl, rfl, ho, ints_of_wellAll ns _ hall, hlen⟩
theorem post_true (l : OpenLaw) (args : List WData) : l.row.toRowW.claim.post args (.bool true) args = true :=
  postW_of (r := l.row.toRowW) (X := (true == true))
    (show WShape.has [] (.bool true) .bool = true by first | rfl | decide | simp [WShape.has, WShape.arms, WShape.armsAll])
    (show (WTm.eq .res (.lit (.bool true))).value [] { args := args, res := some (.bool true), after := args } = some (.bool (true == true)) from w_eq_bool (w_res rfl) w_lit) rfl
theorem attach_call {l : OpenLaw} {n : Nat} {q : Program} {loose : List Str} {XP : (Str -> Option Value) -> Heap -> Prop} {YP : World -> Heap -> Prop} {d : DefRec}
    (hn : l.most = some n) (hdf : d.params.defaults = [])
    (call : ∀ (w : World) (s₀ s₁ : Shared) (mg mb : Str -> Option Value) (fa : Addr) (o : Obj) (pm cd doc : Value) (a : Addr) (vs : List Value) (ns : List Int),
      Ground q loose [] XP w s₀ mg mb s₁.heap -> YP w s₁.heap ->
      s₁.heap.get? fa = some o -> o.data = .func (docDef d.name d.params d.body d.scope pm cd doc) -> s₁.heap.CodeRec cd d.name -> mg d.name = some (.ref fa) ->
      s₁.heap.get? a = some { cls := .type "list", data := .seq vs.toArray } -> IntsAre vs ns -> ns.length <= n -> s₁.gens = #[] ->
      codeAny (model l.prog w) callerA (.call (.ref fa) ⟨[.ref a], []⟩) (fun r s' => r = .ok (.ret (.bool true)) /\ OldK s₁.heap s'.heap /\ s'.os = s₁.os /\ AllBare s'.gens) s₁) :
    WalkO q loose XP YP l.row.toRowW d [] (fun f vs => PySem.call f vs) := by
  intro w s₀ s₁ mg mb G Y fa o pm cd doc dV kV ho hd hcd hD hmg hg args vals as hpre hlay hrd hwl hlo
  obtain rfl : dV = .none := Dflts.none hD hdf
  obtain rfl : kV = .none := Dflts.noKw hD
  obtain ⟨a, vs, ns, rfl, rfl, hobj, hints, hlen⟩ := script_of hn hpre hwl
  refine enter_call (codeAny_mono (call w s₀ s₁ mg mb fa o pm cd doc a vs ns G Y ho (fd_plain hd) hcd hmg hobj hints hlen hg) fun r s' hq => ?_)
  obtain ⟨rfl, h2, h3, h4⟩ := hq
  exact ⟨.inl ⟨.bool true, .bool true, [], rfl, fun _ => rfl, .bool true, post_true l _, fun _ => ⟨List.Pairwise.nil, fun _ hm => (nomatch hm)⟩⟩, h2, h3, h4⟩
section
variable {prog : Program} {w : World} {A : Around} {E : Value -> Shared -> Prop} {s : Shared} {K : Frag}
end
end Att
namespace L2
open PySem PySem.Spec PyProof.Rows
theorem vals_ints : ∀ {vs : List Value} {ns : List Int}, IntsAre vs ns -> Vals (ns.map V.int) vs
  | _, _, .nil => .nil
  | _, _, .cons n t h => .cons ⟨t, rfl⟩ (vals_ints h)
def Only (H : Hp) : Prop := ∀ b, H b = none \/ ∃ o xs, H b = some (.frz o (.lst xs))
theorem law_call {P : Program} {w : World} {K : PySem.W.Frag} {mg mb : Str -> Option Value} {CX : CXT} {k : Nat} {fa a : Addr} {fd : FuncData} {x : Str} {sp : Sp} {s₁ : Shared} {vs : List Value} {ns : List Int}
    (KX : K.In s₁.heap) (hns : s₁.heap.Ns mainGlobals mg) (hb : s₁.heap.Ns builtinsNs mb) (hbb : ∀ x : Str, x ≠ "__name__" -> mb x = bootBuiltins x) (hlim : s₁.heap.NoLimit) (hg : s₁.gens = #[])
    (ha : s₁.heap.get? a = some { cls := .type "list", data := .seq vs.toArray }) (hi : IntsAre vs ns) (hl : ns.length <= sizeLine) (hr : Room k callerA)
    (F : ∀ base : Heap, K.In base -> base.Ns mainGlobals mg -> FnOk P w K mg base CX k fa fd [x] sp) (hbind : ∀ (s : Shared) (u : Value), BindsTo s fd ⟨[u], []⟩ [(x, u)])
    (hsp : ∀ H : Hp, Only H -> SqL K H a (ns.map V.int) -> sp [.ref a] H (fun v _ => v = .bl true) fun _ _ _ => False)
    (hCX : ∀ H e s', CX [] H s₁ (fun _ _ _ => False) e s' -> False) :
    codeAny (model P w) callerA (.call (.ref fa) ⟨[.ref a], []⟩) (fun r s' => r = .ok (.ret (.bool true)) /\ OldK s₁.heap s'.heap /\ s'.os = s₁.os /\ AllBare s'.gens) s₁ := by
  have rv := vals_ints hi
  have lenV := hi.length
  have core : ∀ H : Hp, Only H -> SqL K H a (ns.map V.int) -> HOk P w H s₁.heap -> (∀ b, H b ≠ none -> b = a) -> (H a ≠ none -> K.lookup a = none) ->
      codeAny (model P w) callerA (.call (.ref fa) ⟨[.ref a], []⟩) (fun r s' => r = .ok (.ret (.bool true)) /\ OldK s₁.heap s'.heap /\ s'.os = s₁.os /\ AllBare s'.gens) s₁ := by
    intro H hO hS hok hA hK
    have base_of : ∀ {b : Addr} {o : Obj}, s₁.heap.get? b = some o -> H b = none -> (hidT s₁.heap H).get? b = some o := fun e n => hidT_get e n
    have noA : ∀ {b : Addr} {o : Obj} {es : Array DictEntry} {ep : Nat}, s₁.heap.get? b = some o -> o.data = .dict es ep -> H b = none := fun {b o es ep} e d => by
      cases q : H b with
      | none => rfl
      | some u =>
        have e' : b = a := hA b (by rw [q]; simp)
        subst e'
        rw [ha] at e; cases e
        have d' : Data.seq vs.toArray _ = Data.dict es ep := d
        cases d'
    have nsK : ∀ {b : Addr} {m : Str -> Option Value}, s₁.heap.Ns b m -> (hidT s₁.heap H).Ns b m := fun {b m} ⟨o, es, ep, e, d, r⟩ => ⟨o, es, ep, base_of e (noA e d), d, r⟩
    have hKb : K.In (hidT s₁.heap H) := fun b o e => base_of (KX b o e) (by
      cases q : H b with
      | none => rfl
      | some u =>
        have e' : b = a := hA b (by rw [q]; simp)
        subst e'
        rw [hK (by rw [q]; simp)] at e; cases e)
    have hM : Mod K mg (hidT s₁.heap H) := ⟨hKb, nsK hns, ⟨mb, nsK hb, hbb⟩, let ⟨mc, h1, h2⟩ := hlim; ⟨mc, nsK h1, h2⟩⟩
    have e0 : Env0 P w K mg (hidT s₁.heap H) callerA [] s₁ H := ⟨rfl, hM, fun b o e => of_hidT e, Nat.le_of_eq (hidT_size _ _), trivial, fun b hb => absurd (show b ∈ ([] : List Addr) from hb) (by simp), hok, .of_eq hg⟩
    refine codeAny_mono ((F _ hKb (nsK hns)).run callerA [] s₁ H ⟨[.ref a], []⟩ [.ref a] [.ref a] _ _ hr e0 (hbind s₁ (.ref a)) (.cons rfl .nil) (hsp H hO hS)) fun r s' h => ?_
    cases r with
    | error e => exact (hCX H e s' h).elim
    | ok fl =>
      cases fl with
      | next => exact False.elim h
      | brk => exact False.elim h
      | cont => exact False.elim h
      | ret u =>
        obtain ⟨v, H', os, bare, un, hok', r', q⟩ := h
        have q' : v = .bl true := q
        subst q'
        obtain rfl : u = Value.bool true := r'
        refine ⟨rfl, OldK.of_keep fun b o e => ?_, os, bare⟩
        cases q : H b with
        | none => exact un.keep b o e q (by intro z; exact absurd (show b ∈ ([] : List Addr) from z) (by simp)) (by simp)
        | some u =>
          rcases hO b with z | ⟨ob, xs, z⟩
          · rw [q] at z; cases z
          · have z2 := un.frzs b ob _ z
            obtain ⟨e1, _⟩ := hok b _ z
            obtain ⟨e2, _⟩ := hok' b _ z2
            rw [e] at e1; cases e1
            exact e2
  cases hk : K.lookup a with
  | some o =>
    have e := KX a o hk
    rw [ha] at e
    cases e
    refine core (fun _ => none) (fun _ => .inl rfl) (.inr ⟨_, vs.toArray, _, hk, rfl, rfl, rfl, by rw [List.size_toArray, lenV]; exact hl, by simpa using rv⟩) (fun b u z => by have z' : (none : Option HO) = some u := z; cases z') (fun b z => absurd rfl z) fun z => absurd rfl z
  | none =>
    refine core (fun b => if b = a then some (.frz { cls := .type "list", data := .seq vs.toArray } (.lst (ns.map V.int))) else none) (fun b => ?_) (.inl (.inr ⟨{ cls := .type "list", data := .seq vs.toArray }, if_pos rfl⟩)) (fun b u z => ?_) (fun b z => ?_) fun _ => hk
    · by_cases hb : b = a
      · exact .inr ⟨_, _, if_pos hb⟩
      · exact .inl (if_neg hb)
    · by_cases hb : b = a
      · have z' := (if_pos hb).symm.trans z
        cases z'
        subst hb
        exact ⟨ha, by rw [List.length_map]; exact hl, vs, _, rv, ha⟩
      · have z' := (if_neg hb).symm.trans z
        cases z'
    · by_cases hb : b = a
      · exact hb
      · exact absurd (if_neg hb) z
end L2
namespace L2
open PySem PySem.Spec PyProof.Rows
theorem walk_of {l : PySem.W.OpenLaw} {n k : Nat} {q : Program} {loose : List Str} {XP : (Str -> Option Value) -> Heap -> Prop} {YP : World -> Heap -> Prop} {d : DefRec} {K : Params -> PySem.W.Frag} {CX : World -> CXT} {sp : World -> Sp} {x : Str}
    (hn : l.most = some n) (hn2 : n <= sizeLine) (hdf : d.params.defaults = []) (hr : Room k callerA)
    (hY : ∀ (w : World) (h : Heap), YP w h -> (K w.params).In h)
    (F : ∀ (w : World) (mg : Str -> Option Value) (fa : Addr) (h : Heap), (K w.params).In h -> h.Ns mainGlobals mg -> mg d.name = some (.ref fa) ->
      ∃ fd : FuncData, (∀ (s : Shared) (u : Value), BindsTo s fd ⟨[u], []⟩ [(x, u)]) /\
        ∀ base : Heap, (K w.params).In base -> base.Ns mainGlobals mg -> FnOk l.prog w (K w.params) mg base (CX w) k fa fd [x] (sp w))
    (hsp : ∀ (w : World) (H : Hp) (a : Addr) (ns : List Int), ns.length <= n -> Only H -> SqL (K w.params) H a (ns.map V.int) -> sp w [.ref a] H (fun v _ => v = .bl true) fun _ _ _ => False)
    (hCX : ∀ (w : World) (H : Hp) (s : Shared) (e : Value) (s' : Shared), CX w [] H s (fun _ _ _ => False) e s' -> False) :
    PySem.W.WalkO q loose XP YP l.row.toRowW d [] (fun f vs => PySem.call f vs) := by
  refine Att.attach_call hn hdf fun w s₀ s₁ mg mb fa o pm cd doc a vs ns G Y ho hd hcd hmg hobj hints hlen hg => ?_
  have KX := hY w _ Y
  obtain ⟨fd, hb, hF⟩ := F w mg fa _ KX G.T.g hmg
  exact law_call KX G.T.g G.T.b G.T.builtins G.T.nolimit hg hobj hints (Nat.le_trans hlen hn2) hr hF hb (fun H hO hS => hsp w H a ns hlen hO hS) fun H e s' => hCX w H s₁ e s'
end L2
namespace L2
open PySem PySem.Spec PyProof.Rows
def inClass (s : Stmt) (j : Nat) : Stmt := match s with
  | .ClassDef _ _ _ body _ _ _ _ _ _ _ => body.getD j (.Pass ⟨0, 0, 0, 0⟩)
  | _ => .Pass ⟨0, 0, 0, 0⟩
def defArgs (s : Stmt) : Arguments := match s with
  | .FunctionDef _ a _ _ _ _ _ _ _ _ => a
  | _ => { posonlyargs := [], args := [], vararg := none, kwonlyargs := [], kw_defaults := [], kwarg := none, defaults := [] }
def defBody (s : Stmt) : List Stmt := match s with
  | .FunctionDef _ _ b _ _ _ _ _ _ _ => b
  | _ => []
def defScope (s : Stmt) : Scope := match s with
  | .FunctionDef _ _ _ _ _ _ sc _ _ _ => sc
  | _ => { kind := .function, names := [], isGenerator := false, isCoroutine := false }
abbrev CX0 : CXT := fun _ _ _ _ _ _ => False
abbrev E0 : XK := fun _ _ _ => False
structure Fun (K : PySem.W.Frag) (x qual : Str) (st : Stmt) (f : Addr) (fd : FuncData) : Prop where
  ex : ∃ (oc : Value) (od : Option Addr) (kV doc pm : Value) (an : Option Addr) (cdv ct : Value) (osl : Array (Option Value)),
    fd = PySem.W.fnOf x qual (defArgs st) (defBody st) (defScope st) .none kV doc pm an cdv ct /\ K.lookup f = some ⟨oc, od, .func fd, osl⟩ /\ PySem.W.codeIn K cdv qual = true
  kp : PySem.W.keepIn K (.ref f) = true
section
variable {P : Program} {w : World} {K : PySem.W.Frag} {mg : Str -> Option Value} {base : Heap}
theorem Fun.binds {x qual : Str} {st : Stmt} {f : Addr} {fd : FuncData} {ps : List Str} (F : Fun K x qual st f fd)
    (h : ∀ (kV doc pm : Value) (an : Option Addr) (cdv ct : Value) (us : List Value), us.length = ps.length -> bindArgs (PySem.W.fnOf x qual (defArgs st) (defBody st) (defScope st) .none kV doc pm an cdv ct) ⟨us, []⟩ = pure (ps.zip us)) : Binds K fd ps [] := by
  obtain ⟨oc, od, kV, doc, pm, an, cdv, ct, osl, rfl, lk, hcd⟩ := F.ex
  exact .all (h kV doc pm an cdv ct)
theorem fun_mk {x qual : Str} {st : Stmt} {f : Addr} {oc : Value} {od an : Option Addr} {osl : Array (Option Value)} {kV doc pm cdv ct : Value} (l : K.lookup f = some ⟨oc, od, .func (PySem.W.fnOf x qual (defArgs st) (defBody st) (defScope st) .none kV doc pm an cdv ct), osl⟩)
    (c : PySem.W.codeIn K cdv qual = true) (k : PySem.W.keepIn K (.ref f) = true) : Fun K x qual st f (PySem.W.fnOf x qual (defArgs st) (defBody st) (defScope st) .none kV doc pm an cdv ct) := ⟨⟨oc, od, kV, doc, pm, an, cdv, ct, osl, rfl, l, c⟩, k⟩
end
theorem small1000 {n : Nat} (h : n <= 1000) : n < sizeLine := Nat.lt_of_le_of_lt h (by decide)
section
variable {X : Cx}
theorem pv (i : Nat) {x : Str} {pos : Pos} (hN : X.N[i]? = some x := by rfl) (hv : Vis X.env.scope x := by first | exact Or.inl rfl | exact Or.inr (Or.inl rfl) | exact Or.inr (Or.inr rfl)) (hd : (x == ("__debug__" : Str)) = false := by decide)
    (hcd : (x == ("__classdict__" : Str)) = false := by decide) : PE X (.Name x pos) (tVar i) := pe_var hN hv hd hcd
end
theorem iteF {A B : Prop} (h : B) : if false = true then A else B := by
  rw [if_neg Bool.false_ne_true]
  exact h
theorem iteT {A B : Prop} (h : A) : if true = true then A else B := by
  rw [if_pos rfl]
  exact h
def Same (H H' : Hp) : Prop := ∀ b o, H b = some o -> H' b = some o
end L2
section
namespace L2
open PySem PySem.Spec PyProof.Rows
section
variable {κ : Type} [DecidableEq κ]
def valV (kvs : List (κ × V)) (k : κ) : Option V := (kvs.find? fun kv => decide (kv.1 = k)).map (·.2)
def putK (kvs : List (κ × V)) (k : κ) (v : V) : List (κ × V) :=
  if (kvs.any fun kv => decide (kv.1 = k)) = true then kvs.map (fun kv => if kv.1 = k then (kv.1, v) else kv) else kvs ++ [(k, v)]
def dropK (kvs : List (κ × V)) (k : κ) : List (κ × V) := kvs.filter fun kv => decide (kv.1 ≠ k)
theorem valV_pos {p : κ × V} {r : List (κ × V)} {k : κ} (e : p.1 = k) : valV (p :: r) k = some p.2 := by simp [valV, List.find?_cons, e]
theorem valV_neg {p : κ × V} {r : List (κ × V)} {k : κ} (e : ¬ p.1 = k) : valV (p :: r) k = valV r k := by simp [valV, List.find?_cons, e]
theorem RelO.isSome_eq {o : Option V} {u : Option Value} (r : RelO o u) : o.isSome = u.isSome := by
  cases o with
  | none => cases u with
    | none => rfl
    | some _ => exact (show False from r).elim
  | some _ => cases u with
    | none => exact (show False from r).elim
    | some _ => rfl
theorem KV.val {kvs : List (κ × V)} {vs : List (κ × Value)} (r : KV kvs vs) (k : κ) : RelO (valV kvs k) (valueAt vs k) := by
  unfold KV at r
  induction r with
  | nil => exact True.intro
  | @cons p q ps qs h t ih =>
    obtain ⟨h1, h2⟩ := h
    by_cases e : p.1 = k
    · have e' : q.1 = k := h1.symm.trans e
      have b : valueAt (q :: qs) k = some q.2 := by simp [valueAt, List.find?_cons, e']
      rw [valV_pos e, b]; exact h2
    · have e' : ¬ q.1 = k := fun z => e (h1.trans z)
      have b : valueAt (q :: qs) k = valueAt qs k := by simp [valueAt, List.find?_cons, e']
      rw [valV_neg e, b]; exact ih
end
theorem kV_is {P : Program} {w : World} {k : Key} {u : Value} (r : RelV (kV k) u) : (mixKind P w).is k u = true := by
  cases k with
  | inl i => obtain ⟨t, e⟩ := (show ∃ t, u = Value.int i t from r); subst e; exact mixKind_int P w i t
  | inr x => obtain ⟨t, e⟩ := (show ∃ t, u = Value.str x t from r); subst e; exact mixKind_str P w x t
theorem items_are {P : Program} {w : World} : ∀ {ks : List Key} {us : List Value}, Vals (ks.map kV) us -> ItemsAre (mixKind P w) ks us
  | [], _, r => by rw [List.map_nil] at r; cases r; exact .nil
  | k :: ks, _, r => by
    rw [List.map_cons] at r
    cases r with
    | cons h t => exact .cons (kV_is h) (items_are t)
abbrev KT (H : Hp) : List (List Key × V) -> List (List Key × Addr × Value) -> Prop := Paired fun p q => p.1 = q.1 /\ H q.2.1 = some (.tup (p.1.map kV)) /\ RelV p.2 q.2.2
theorem KT.val {H : Hp} {kvs : List (List Key × V)} {xs : List (List Key × Addr × Value)} (r : KT H kvs xs) (k : List Key) : RelO (valV kvs k) ((atKey xs k).map (·.2)) := by
  induction r with
  | nil => exact True.intro
  | @cons p q ps qs h t ih =>
    obtain ⟨h1, _, h2⟩ := h
    by_cases e : p.1 = k
    · have e' : q.1 = k := h1.symm.trans e
      have b : atKey (q :: qs) k = some q.2 := by simp [atKey, List.find?_cons, e']
      rw [valV_pos e, b]; exact h2
    · have e' : ¬ q.1 = k := fun z => e (h1.trans z)
      have b : atKey (q :: qs) k = atKey qs k := by simp [atKey, List.find?_cons, e']
      rw [valV_neg e, b]; exact ih
section
variable {P : Program} {w : World} {H : Hp} {h : Heap} {a : Addr}
theorem rd_of {u : HO} (ok : HOk P w H h) (e : Rd H a u) : ObjOk P w H h a u := e.ok ok
theorem dk_rd {kvs : List (Key × V)} (ok : HOk P w H h) (e : Rd H a (.dK kvs)) : kvs.length <= sizeLine /\ (a == sysModules) = false /\ ∃ vs, KV kvs vs /\ h.DictOf (mixKind P w) a vs :=
  show ObjOk P w H h a (.dK kvs) from rd_of ok e
theorem key_of {ks : List Key} (ok : HOk P w H h) (e : H a = some (.tup (ks.map kV))) : (tupleKind (mixKind P w)).is h ks a := by
  obtain ⟨_, its, r, o, h1, h2, n, h3⟩ := (show ObjOk P w H h a (.tup (ks.map kV)) from ok a _ e)
  exact ⟨o, its.toArray, n, h1, h2, h3, by simpa using items_are r⟩
theorem dt_rd {kvs : List (List Key × V)} (ok : HOk P w H h) (e : Rd H a (.dT kvs)) : kvs.length <= sizeLine /\ (a == sysModules) = false /\
    ∃ xs, KT H kvs xs /\ h.DictOfH (tupleKind (mixKind P w)) a xs := by
  obtain ⟨z, y, xs, r, o, es, ep, h1, h2, h3, h4, h5⟩ := (show ObjOk P w H h a (.dT kvs) from rd_of ok e)
  refine ⟨z, y, xs, r, o, es, ep, h1, h2, h3, h4, fun x hx => ?_, h5⟩
  have all : ∀ {l : List (List Key × V)} {m : List (List Key × Addr × Value)}, KT H l m -> ∀ x ∈ m, (tupleKind (mixKind P w)).is h x.1 x.2.1 := by
    intro l m q
    induction q with
    | nil => intro x hx; exact nomatch hx
    | @cons p q ps qs hq t ih =>
      intro x hx
      rcases List.mem_cons.mp hx with e | hx
      · subst e
        exact key_of ok (by rw [<- hq.1]; exact hq.2.1)
      · exact ih x hx
  exact all r x hx
end
def DGet (H : Hp) (a : Addr) (y : V) (r : Option V) : Prop :=
  (∃ kvs k, Rd H a (.dK kvs) /\ y = kV k /\ r = valV kvs k) \/ ∃ kvs k b, Rd H a (.dT kvs) /\ y = .ref b /\ H b = some (.tup (k.map kV)) /\ r = valV kvs k
def DPut (H : Hp) (a : Addr) (y v : V) (H' : Hp) : Prop :=
  (∃ kvs k, H a = some (.dK kvs) /\ y = kV k /\ kvs.length < sizeLine /\ H' = upd H a (.dK (putK kvs k v))) \/
  ∃ kvs k b, H a = some (.dT kvs) /\ y = .ref b /\ H b = some (.tup (k.map kV)) /\ kvs.length < sizeLine /\ H' = upd H a (.dT (putK kvs k v))
theorem DGet.k {H : Hp} {a : Addr} {kvs : List (Key × V)} {k : Key} (e : H a = some (.dK kvs)) : DGet H a (kV k) (valV kvs k) := .inl ⟨kvs, k, .inl e, rfl, rfl⟩
section
variable {X : Cx} {pins : List (Addr × Obj)} {σ : St} {H : Hp} {s : Shared} {a : Addr} {y v : V} {u r : Value} {o : Option V} {A : Around} {E : Value -> Shared -> Prop}
theorem d_getItem {Q : Value -> Shared -> Prop} (hu : A.units + 1 < cLine) (I : Inv X pins σ H s) (g : DGet H a y (some v)) (ry : RelV y u) (h : ∀ w' s', Inv X pins σ H s' -> RelV v w' -> Q w' s') :
    wpAny (model X.prog X.w) A (getItem (.ref a) u) Q E s := by
  rcases g with ⟨kvs, k, e, ey, l⟩ | ⟨kvs, k, b, e, ey, eb, l⟩
  · subst ey
    obtain ⟨z, hd, vs, rel, dd⟩ := dk_rd I.hok e
    obtain ⟨w', hw, rw'⟩ := RelO.some_of (v := v) (o := valueAt vs k) (by rw [l]; exact rel.val k)
    exact wpAny_getItem_of (kV_is ry) dd.mapOf hw (h w' _ (I.tok _) rw')
  · subst ey
    cases (show u = Value.ref b from ry)
    obtain ⟨z, hd, xs, rel, dd⟩ := dt_rd I.hok e
    obtain ⟨w', hw, rw'⟩ := RelO.some_of (v := v) (o := (atKey xs k).map (·.2)) (by rw [l]; exact rel.val k)
    obtain ⟨p, hp, hp2⟩ := Option.map_eq_some_iff.mp hw
    refine wpAny_getItem_heap (tupleKind_room_in1 hu) (key_of I.hok eb) dd hp ?_
    rw [hp2]
    exact h w' _ (I.tok _) rw'
theorem d_in {Q : Value -> Shared -> Prop} (hu : A.units + 1 < cLine) (I : Inv X pins σ H s) (g : DGet H a y o) (ry : RelV y u) (h : ∀ s', Inv X pins σ H s' -> Q (.bool o.isSome) s') :
    wpAny (model X.prog X.w) A (compareOp .In u (.ref a)) Q E s := by
  rcases g with ⟨kvs, k, e, ey, l⟩ | ⟨kvs, k, b, e, ey, eb, l⟩
  · subst ey
    obtain ⟨z, hd, vs, rel, dd⟩ := dk_rd I.hok e
    refine wpAny_in_of (kV_is ry) hd dd.mapOf ?_
    rw [<- (rel.val k).isSome_eq, <- l]
    exact h _ (I.tok _)
  · subst ey
    cases (show u = Value.ref b from ry)
    obtain ⟨z, hd, xs, rel, dd⟩ := dt_rd I.hok e
    refine wpAny_in_heap (tupleKind_room_in1 hu) (key_of I.hok eb) hd dd ?_
    have q := (rel.val k).isSome_eq
    rw [Option.isSome_map] at q
    rw [<- q, <- l]
    exact h _ (I.tok _)
theorem d_notIn {Q : Value -> Shared -> Prop} (hu : A.units + 1 < cLine) (I : Inv X pins σ H s) (g : DGet H a y o) (ry : RelV y u) (h : ∀ s', Inv X pins σ H s' -> Q (.bool (!o.isSome)) s') :
    wpAny (model X.prog X.w) A (compareOp .NotIn u (.ref a)) Q E s := by
  rcases g with ⟨kvs, k, e, ey, l⟩ | ⟨kvs, k, b, e, ey, eb, l⟩
  · subst ey
    obtain ⟨z, hd, vs, rel, dd⟩ := dk_rd I.hok e
    refine wpAny_notIn_of (kV_is ry) hd dd.mapOf ?_
    rw [<- (rel.val k).isSome_eq, <- l]
    exact h _ (I.tok _)
  · subst ey
    cases (show u = Value.ref b from ry)
    obtain ⟨z, hd, xs, rel, dd⟩ := dt_rd I.hok e
    refine wpAny_notIn_heap (tupleKind_room_in1 hu) (key_of I.hok eb) hd dd ?_
    have q := (rel.val k).isSome_eq
    rw [Option.isSome_map] at q
    rw [<- q, <- l]
    exact h _ (I.tok _)
end
section
variable {X : Cx} {pins : List (Addr × Obj)} {σ : St} {H : Hp} {s : Shared} {a : Addr} {kvs : List (Key × V)} {k : Key} {u : Value} {A : Around} {E : Value -> Shared -> Prop}
end
theorem dict_typeIs {X : Cx} {pins : List (Addr × Obj)} {σ : St} {H : Hp} {s : Shared} {a : Addr} {y : V} {o : Option V} (I : Inv X pins σ H s) (g : DGet H a y o) : s.TypeIs (.ref a) "dict" := by
  rcases g with ⟨kvs, k, e, _, _⟩ | ⟨kvs, k, b, e, _, _, _⟩
  · obtain ⟨_, _, vs, _, dd⟩ := dk_rd I.hok e
    exact dd.typeIs
  · obtain ⟨_, _, xs, _, dd⟩ := dt_rd I.hok e
    exact dd.typeIs
section
variable {X : Cx} {o i e value : Expr} {pos pos' tpos : Pos} {td ty tv : TE}
end
section
variable {X : Cx} {pos : Pos}
end
section
variable {X : Cx} {pins : List (Addr × Obj)} {σ : St} {H : Hp} {s : Shared} {a : Addr} {y d : V} {u r : Value} {o : Option V} {A : Around} {E : Value -> Shared -> Prop}
end
section
variable {X : Cx} {o e f : Expr} {apos cpos : Pos} {td ty tx : TE}
end
section
variable {X : Cx} {pins : List (Addr × Obj)} {σ : St} {H : Hp} {s : Shared} {a : Addr} {kvs : List (Key × V)} {A : Around} {E : Value -> Shared -> Prop}
end
section
variable {X : Cx} {pins : List (Addr × Obj)} {σ : St} {H : Hp} {s : Shared} {a : Addr} {y : V} {u : Value} {A : Around} {E : Value -> Shared -> Prop}
end
end L2
namespace L2
open PySem PySem.Spec PyProof.Rows
section
variable {X : Cx}
end
section
variable {κ : Type} [DecidableEq κ]
end
end L2
end
section
namespace Ng
open PySem PySem.Spec PyProof.Rows L2
abbrev Sg := L2.St
inductive D where
  | non | bl (b : Bool) | int (i : Int) | str (x : Str) | ty (n : String) | tup (l : List D) | ref (n : Nat)
inductive O where
  | lst (l : List D) | ro (l : List D) | dct (l : List (Key × D)) | dtt (l : List (List Int × D)) | ded | dtf (l : List (List Int × D)) | ins (cn : Str) (fs : List (Str × D))
abbrev Hh := List O
abbrev Ev := List (Option D)
inductive Rs (A : Type) where
  | ok (a : A) (h : Hh) | exc (c : Nat) (r : Ev) (h : Hh) | bad
def Rs.bind {A B : Type} : Rs A -> (A -> Hh -> Rs B) -> Rs B
  | .ok a h, f => f a h
  | .exc c r h, _ => .exc c r h
  | .bad, _ => .bad
theorem Rs.bind_ok {A B : Type} {r : Rs A} {f : A -> Hh -> Rs B} {b : B} {h' : Hh} (e : r.bind f = .ok b h') : ∃ a h, r = .ok a h /\ f a h = .ok b h' := by
  cases r with
  | ok a h => exact ⟨a, h, rfl, e⟩
  | exc c r h => cases e
  | bad => cases e
def Rs.nx {A : Type} : Rs A -> Rs A
  | .ok a h => .ok a h
  | _ => .bad
theorem Rs.nx_ok {A : Type} {r : Rs A} {a : A} {h : Hh} (e : r.nx = .ok a h) : r = .ok a h := by
  cases r with
  | ok b h' => exact e
  | exc c r h' => cases e
  | bad => cases e
def Rs.inn {A : Type} (r : Ev) : Rs A -> Rs A
  | .exc c _ h => .exc c r h
  | o => o
mutual
inductive RD (K : PySem.W.Frag) (m : List Addr) (H : Hp) : D -> V -> Prop where
  | non : RD K m H .non .non
  | bl (b : Bool) : RD K m H (.bl b) (.bl b)
  | int (i : Int) : RD K m H (.int i) (.int i)
  | str (x : Str) : RD K m H (.str x) (.str x)
  | ty (n : String) : RD K m H (.ty n) (.ty n)
  | tup {a : Addr} {ds : List D} {vs : List V} (h : SqT K H a vs) (r : RDs K m H ds vs) : RD K m H (.tup ds) (.ref a)
  | ref {n : Nat} {a : Addr} (h : m[n]? = some a) : RD K m H (.ref n) (.ref a)
inductive RDs (K : PySem.W.Frag) (m : List Addr) (H : Hp) : List D -> List V -> Prop where
  | nil : RDs K m H [] []
  | cons {d : D} {v : V} {ds : List D} {vs : List V} (h : RD K m H d v) (r : RDs K m H ds vs) : RDs K m H (d :: ds) (v :: vs)
end
structure Gr (K : PySem.W.Frag) (m : List Addr) (H : Hp) (m' : List Addr) (H' : Hp) : Prop where
  pre : ∀ (n : Nat) (a : Addr), m[n]? = some a -> m'[n]? = some a
  tup : ∀ (a : Addr) (vs : List V), SqT K H a vs -> SqT K H' a vs
  frz : ∀ (a : Addr) (o : Obj) (u : HO), H a = some (.frz o u) -> H' a = some (.frz o u)
theorem Gr.refl {K : PySem.W.Frag} {m : List Addr} {H : Hp} : Gr K m H m H := ⟨fun _ _ e => e, fun _ _ e => e, fun _ _ _ e => e⟩
theorem Gr.trans {K : PySem.W.Frag} {m m1 m2 : List Addr} {H H1 H2 : Hp} (a : Gr K m H m1 H1) (b : Gr K m1 H1 m2 H2) : Gr K m H m2 H2 :=
  ⟨fun n x e => b.pre n x (a.pre n x e), fun n x e => b.tup n x (a.tup n x e), fun n x u e => b.frz n x u (a.frz n x u e)⟩
section
variable {K : PySem.W.Frag} {m m' : List Addr} {H H' : Hp}
mutual
theorem RD.mono (g : Gr K m H m' H') : ∀ {d : D} {v : V}, RD K m H d v -> RD K m' H' d v
  | _, _, .non => .non
  | _, _, .bl b => .bl b
  | _, _, .int i => .int i
  | _, _, .str x => .str x
  | _, _, .ty n => .ty n
  | _, _, .tup h r => .tup (g.tup _ _ h) (RDs.mono g r)
  | _, _, .ref h => .ref (g.pre _ _ h)
theorem RDs.mono (g : Gr K m H m' H') : ∀ {ds : List D} {vs : List V}, RDs K m H ds vs -> RDs K m' H' ds vs
  | _, _, .nil => .nil
  | _, _, .cons h r => .cons (RD.mono g h) (RDs.mono g r)
end
theorem RDs.length : ∀ {ds : List D} {vs : List V}, RDs K m H ds vs -> ds.length = vs.length
  | _, _, .nil => rfl
  | _, _, .cons _ r => by simp [RDs.length r]
theorem RDs.get : ∀ {ds : List D} {vs : List V} {i : Nat} {d : D}, RDs K m H ds vs -> ds[i]? = some d -> ∃ v, vs[i]? = some v /\ RD K m H d v
  | _, _, _, _, .nil, e => by simp at e
  | _, _, 0, _, .cons h _, e => by simp at e; subst e; exact ⟨_, rfl, h⟩
  | _, _, i + 1, d, .cons _ r, e => by
    obtain ⟨v, h1, h2⟩ := RDs.get (i := i) (d := d) r (by simpa using e)
    exact ⟨v, by simpa using h1, h2⟩
theorem RDs.append : ∀ {ds es : List D} {vs us : List V}, RDs K m H ds vs -> RDs K m H es us -> RDs K m H (ds ++ es) (vs ++ us)
  | _, _, _, _, .nil, s => s
  | _, _, _, _, .cons h r, s => .cons h (RDs.append r s)
end
theorem RDs.ints {K : PySem.W.Frag} {m : List Addr} {H : Hp} : ∀ (ns : List Int), RDs K m H (ns.map D.int) (ns.map V.int)
  | [] => .nil
  | n :: ns => .cons (.int n) (RDs.ints ns)
def SqR (K : PySem.W.Frag) (H : Hp) (a : Addr) (xs : List V) : Prop :=
  (∃ o, H a = some (.frz o (.lst xs))) \/
    ∃ (o : Obj) (its : Array Value) (n : Nat), K.lookup a = some o /\ o.cls = .type "list" /\ o.dict = none /\ o.data = .seq its n /\ its.size <= sizeLine /\ Vals xs its.toList
theorem SqR.sq {K : PySem.W.Frag} {H : Hp} {a : Addr} {xs : List V} (h : SqR K H a xs) : SqL K H a xs := by
  rcases h with h | h
  · exact .inl (.inr h)
  · exact .inr h
def Dtt (a : Addr) (xs : List (List Int × Addr × Value)) (h : Heap) : Prop :=
  (a == sysModules) = false /\ xs.length <= 1000 /\ ∃ (P : Program) (w : World) (o : Obj) (es : Array DictEntry) (ep : Nat), h.get? a = some o /\ o.ExactDict /\ o.data = .dict es ep /\
    es.toList = xs.map (entryOfKey (tupleKind (intKind P w))) /\ (xs.map (·.1)).Nodup
def Dfo (a : Addr) (xs : List (List Int × Addr × Value)) (o : Obj) (es : Array DictEntry) (ep : Nat) : Prop :=
  (a == sysModules) = false /\ xs.length <= 1000 /\ o.ExactDict /\ o.data = .dict es ep /\ (∃ (P : Program) (w : World), es.toList = xs.map (entryOfKey (tupleKind (intKind P w)))) /\ (xs.map (·.1)).Nodup
def RO (K : PySem.W.Frag) (m : List Addr) (H : Hp) (a : Addr) : O -> Prop
  | .lst ds => ∃ vs, H a = some (.lst vs) /\ RDs K m H ds vs
  | .ro ds => ∃ vs, SqR K H a vs /\ RDs K m H ds vs
  | .dct ds => ∃ us : List (Key × V), H a = some (.dK us) /\ ds.map (·.1) = us.map (·.1) /\ RDs K m H (ds.map (·.2)) (us.map (·.2))
  | .dtt ds => ∃ (xs : List (List Int × Addr × Value)) (us : List V), H a = some (.ext (Dtt a xs)) /\ ds.map (·.1) = xs.map (·.1) /\ (∀ x ∈ xs, SqT K H x.2.1 (x.1.map V.int)) /\ RDs K m H (ds.map (·.2)) us /\ Vals us (xs.map (·.2.2))
  | .ded => True
  | .dtf ds => ∃ (xs : List (List Int × Addr × Value)) (us : List V) (o : Obj) (es : Array DictEntry) (ep : Nat), H a = some (.frz o (.own a)) /\ Dfo a xs o es ep /\ ds.map (·.1) = xs.map (·.1) /\ (∀ x ∈ xs, SqT K H x.2.1 (x.1.map V.int)) /\ RDs K m H (ds.map (·.2)) us /\ Vals us (xs.map (·.2.2))
  | .ins cn fs => ∃ (C dx : Addr) (us : List (Str × V)), PySem.W.nsIn K mainGlobals cn = some (some (.ref C)) /\ H a = some (.ins C dx us) /\ fs.map (·.1) = us.map (·.1) /\ RDs K m H (fs.map (·.2)) (us.map (·.2))
def O.wr : O -> Bool
  | .lst _ => true
  | .ro _ => false
  | .dct _ => true
  | .dtt _ => true
  | .ded => false
  | .dtf _ => false
  | .ins _ _ => true
def wrO : HO -> Bool
  | .lst _ => true
  | .dK _ => true
  | .ext _ => true
  | .ins _ _ _ => true
  | _ => false
structure Wd (K : PySem.W.Frag) (m : List Addr) (h : Hh) (H : Hp) : Prop where
  len : m.length = h.length
  nd : ∀ (i j : Nat) (a : Addr) (o u : O), m[i]? = some a -> m[j]? = some a -> h[i]? = some o -> h[j]? = some u -> o.wr = true -> u.wr = true -> i = j
  ob : ∀ (n : Nat) (o : O) (a : Addr), h[n]? = some o -> m[n]? = some a -> RO K m H a o
theorem Wd.at {K : PySem.W.Frag} {m : List Addr} {h : Hh} {H : Hp} (w : Wd K m h H) {n : Nat} {o : O} (e : h[n]? = some o) : ∃ a, m[n]? = some a /\ RO K m H a o := by
  have hn : n < h.length := (List.getElem?_eq_some_iff.mp e).1
  have hm : n < m.length := by rw [w.len]; exact hn
  exact ⟨m[n], List.getElem?_eq_getElem hm, w.ob n o _ e (List.getElem?_eq_getElem hm)⟩
def RSt (K : PySem.W.Frag) (m : List Addr) (H : Hp) (r : Ev) (s : Sg) : Prop := r.length = s.length /\ ∀ (i : Nat) (d : D), r[i]? = some (some d) -> ∃ v, s[i]? = some (some v) /\ RD K m H d v
theorem RSt.mono {K : PySem.W.Frag} {m m' : List Addr} {H H' : Hp} {r : Ev} {s : Sg} (g : Gr K m H m' H') (h : RSt K m H r s) : RSt K m' H' r s :=
  ⟨h.1, fun i d e => let ⟨v, h1, h2⟩ := h.2 i d e; ⟨v, h1, h2.mono g⟩⟩
theorem RSt.set {K : PySem.W.Frag} {m : List Addr} {H : Hp} {r : Ev} {s : Sg} {d : D} {v : V} (h : RSt K m H r s) (i : Nat) (q : RD K m H d v) : RSt K m H (r.set i (some d)) (s.set i (some v)) := by
  refine ⟨by simp [h.1], fun j e he => ?_⟩
  by_cases hij : i = j
  · subst hij
    have hl : i < r.length := by
      have := (List.getElem?_eq_some_iff.mp he).1
      simpa using this
    rw [List.getElem?_set_self hl] at he
    have he' : d = e := by injection he with z; injection z
    subst he'
    exact ⟨v, List.getElem?_set_self (by rw [<- h.1]; exact hl), q⟩
  · rw [List.getElem?_set_ne hij] at he
    obtain ⟨u, h1, h2⟩ := h.2 j e he
    exact ⟨u, by rw [List.getElem?_set_ne hij]; exact h1, h2⟩
theorem SqT.upd_new {K : PySem.W.Frag} {H : Hp} {p : Addr} {o : HO} (hp : H p = none) {a : Addr} {vs : List V} (h : SqT K H a vs) : SqT K (upd H p o) a vs := by
  rcases h with (h | ⟨ob, h⟩) | h
  · exact .inl (.inl (by rw [upd_ne (ne_of_none h hp)]; exact h))
  · exact .inl (.inr ⟨ob, by rw [upd_ne (ne_of_none h hp)]; exact h⟩)
  · exact .inr h
theorem SqT.upd_w {K : PySem.W.Frag} {H : Hp} {p : Addr} {u o : HO} (hp : H p = some u) (hw : wrO u = true) {a : Addr} {vs : List V} (h : SqT K H a vs) : SqT K (upd H p o) a vs := by
  rcases h with (h | ⟨ob, h⟩) | h
  · exact .inl (.inl (by rw [upd_ne (ne_of h hp (fun z => by subst z; cases hw))]; exact h))
  · exact .inl (.inr ⟨ob, by rw [upd_ne (ne_of h hp (fun z => by subst z; cases hw))]; exact h⟩)
  · exact .inr h
theorem SqR.upd_new {K : PySem.W.Frag} {H : Hp} {p : Addr} {o : HO} (hp : H p = none) {a : Addr} {vs : List V} (h : SqR K H a vs) : SqR K (upd H p o) a vs := by
  rcases h with ⟨ob, h⟩ | h
  · exact .inl ⟨ob, by rw [upd_ne (ne_of_none h hp)]; exact h⟩
  · exact .inr h
theorem SqR.upd_w {K : PySem.W.Frag} {H : Hp} {p : Addr} {u o : HO} (hp : H p = some u) (hw : wrO u = true) {a : Addr} {vs : List V} (h : SqR K H a vs) : SqR K (upd H p o) a vs := by
  rcases h with ⟨ob, h⟩ | h
  · exact .inl ⟨ob, by rw [upd_ne (ne_of h hp (fun z => by subst z; cases hw))]; exact h⟩
  · exact .inr h
section
variable {K : PySem.W.Frag} {m : List Addr} {h : Hh} {H : Hp}
theorem Gr.tupNew {p : Addr} {o : HO} (hp : H p = none) : Gr K m H m (upd H p o) := ⟨fun _ _ e => e, fun _ _ e => SqT.upd_new hp e, fun b o' u' e => by rw [upd_ne (ne_of_none e hp)]; exact e⟩
theorem RO.some_of {a : Addr} {o : O} (r : RO K m H a o) (w : o.wr = true) : ∃ u, H a = some u /\ wrO u = true := by
  cases o with
  | lst ds => obtain ⟨vs, h1, _⟩ := r; exact ⟨_, h1, rfl⟩
  | ro ds => cases w
  | dct ds => obtain ⟨vs, h1, _⟩ := r; exact ⟨_, h1, rfl⟩
  | dtt ds => obtain ⟨xs, us, h1, _⟩ := r; exact ⟨_, h1, rfl⟩
  | ded => cases w
  | dtf ds => cases w
  | ins cn fs => obtain ⟨C, dx, us, _, h1, _⟩ := r; exact ⟨_, h1, rfl⟩
theorem RO.keepNew {p a : Addr} {o : HO} {u : O} {m' : List Addr} (hp : H p = none) (g : Gr K m H m' (upd H p o)) (q : RO K m H a u) : RO K m' (upd H p o) a u := by
  cases u with
  | lst ds =>
    obtain ⟨vs, h1, h2⟩ := q
    exact ⟨vs, by rw [upd_ne (ne_of_none h1 hp)]; exact h1, h2.mono g⟩
  | ro ds =>
    obtain ⟨vs, h1, h2⟩ := q
    exact ⟨vs, SqR.upd_new hp h1, h2.mono g⟩
  | dct ds =>
    obtain ⟨vs, h1, h2, h3⟩ := q
    exact ⟨vs, by rw [upd_ne (ne_of_none h1 hp)]; exact h1, h2, h3.mono g⟩
  | dtt ds =>
    obtain ⟨xs, us, h1, h2, h3, h4, h5⟩ := q
    exact ⟨xs, us, by rw [upd_ne (ne_of_none h1 hp)]; exact h1, h2, fun x hx => g.tup _ _ (h3 x hx), h4.mono g, h5⟩
  | ded => trivial
  | dtf ds =>
    obtain ⟨xs, us, o', es, ep, h1, h2, h3, h4, h5, h6⟩ := q
    exact ⟨xs, us, o', es, ep, by rw [upd_ne (ne_of_none h1 hp)]; exact h1, h2, h3, fun x hx => g.tup _ _ (h4 x hx), h5.mono g, h6⟩
  | ins cn fs =>
    obtain ⟨C, dx, us, h1, h2, h3, h4⟩ := q
    exact ⟨C, dx, us, h1, by rw [upd_ne (ne_of_none h2 hp)]; exact h2, h3, h4.mono g⟩
theorem RO.keepSet {p a : Addr} {v o : HO} {u : O} {m' : List Addr} (hp : H p = some v) (hw : wrO v = true) (na : u.wr = true -> a ≠ p) (g : Gr K m H m' (upd H p o)) (q : RO K m H a u) : RO K m' (upd H p o) a u := by
  cases u with
  | lst ds =>
    obtain ⟨vs, h1, h2⟩ := q
    exact ⟨vs, by rw [upd_ne (na rfl)]; exact h1, h2.mono g⟩
  | ro ds =>
    obtain ⟨vs, h1, h2⟩ := q
    exact ⟨vs, SqR.upd_w hp hw h1, h2.mono g⟩
  | dct ds =>
    obtain ⟨vs, h1, h2, h3⟩ := q
    exact ⟨vs, by rw [upd_ne (na rfl)]; exact h1, h2, h3.mono g⟩
  | dtt ds =>
    obtain ⟨xs, us, h1, h2, h3, h4, h5⟩ := q
    exact ⟨xs, us, by rw [upd_ne (na rfl)]; exact h1, h2, fun x hx => g.tup _ _ (h3 x hx), h4.mono g, h5⟩
  | ded => trivial
  | dtf ds =>
    obtain ⟨xs, us, o', es, ep, h1, h2, h3, h4, h5, h6⟩ := q
    exact ⟨xs, us, o', es, ep, by rw [upd_ne (ne_of h1 hp (fun z => by subst z; cases hw))]; exact h1, h2, h3, fun x hx => g.tup _ _ (h4 x hx), h5.mono g, h6⟩
  | ins cn fs =>
    obtain ⟨C, dx, us, h1, h2, h3, h4⟩ := q
    exact ⟨C, dx, us, h1, by rw [upd_ne (na rfl)]; exact h2, h3, h4.mono g⟩
theorem Wd.keepNew (w : Wd K m h H) {p : Addr} {o : HO} (hp : H p = none) : Wd K m h (upd H p o) :=
  ⟨w.len, w.nd, fun n ob a e1 e2 => (w.ob n ob a e1 e2).keepNew hp (Gr.tupNew hp)⟩
theorem Wd.objNew (w : Wd K m h H) {p : Addr} {o : O} {u : HO} (hp : H p = none) (r : Gr K m H (m ++ [p]) (upd H p u) -> RO K (m ++ [p]) (upd H p u) p o) : Wd K (m ++ [p]) (h ++ [o]) (upd H p u) /\ Gr K m H (m ++ [p]) (upd H p u) := by
  have g : Gr K m H (m ++ [p]) (upd H p u) := ⟨fun n a e => by
    rw [List.getElem?_append_left (List.getElem?_eq_some_iff.mp e).1]; exact e, fun _ _ e => SqT.upd_new hp e, fun b o' u' e => by rw [upd_ne (ne_of_none e hp)]; exact e⟩
  have cs : ∀ (i : Nat) (a : Addr) (o' : O), (m ++ [p])[i]? = some a -> (h ++ [o])[i]? = some o' -> (i < h.length /\ m[i]? = some a /\ h[i]? = some o') \/ (i = h.length /\ a = p /\ o' = o) := by
    intro i a o' e1 e2
    by_cases hi : i < h.length
    · rw [List.getElem?_append_left (by rw [w.len]; exact hi)] at e1
      rw [List.getElem?_append_left hi] at e2
      exact .inl ⟨hi, e1, e2⟩
    · have hl := (List.getElem?_eq_some_iff.mp e2).1
      have e : i = h.length := by simp at hl; omega
      subst e
      rw [<- w.len] at e1
      simp at e1 e2
      exact .inr ⟨rfl, e1.symm, e2.symm⟩
  have fr : ∀ (i : Nat) (o : O), m[i]? = some p -> h[i]? = some o -> o.wr = true -> False := fun i o e1 e2 hw => by
    obtain ⟨u, hu, _⟩ := (w.ob i o p e2 e1).some_of hw
    rw [hp] at hu; cases hu
  refine ⟨⟨by simp [w.len], fun i j a o1 o2 e1 e2 e3 e4 w1 w2 => ?_, fun n o' a e1 e2 => ?_⟩, g⟩
  · rcases cs i a o1 e1 e3 with ⟨_, x1, x2⟩ | ⟨z1, z2, z3⟩
    · rcases cs j a o2 e2 e4 with ⟨_, y1, y2⟩ | ⟨y1, y2, y3⟩
      · exact w.nd i j a o1 o2 x1 y1 x2 y2 w1 w2
      · subst y2; exact (fr i o1 x1 x2 w1).elim
    · rcases cs j a o2 e2 e4 with ⟨_, y1, y2⟩ | ⟨y1, y2, y3⟩
      · subst z2; exact (fr j o2 y1 y2 w2).elim
      · rw [z1, y1]
  · rcases cs n a o' e2 e1 with ⟨_, x1, x2⟩ | ⟨z1, z2, z3⟩
    · exact (w.ob n o' a x2 x1).keepNew hp g
    · subst z2; subst z3
      exact r g
theorem Wd.objSet (w : Wd K m h H) {n : Nat} {a : Addr} {o o' : O} {u : HO} (e1 : h[n]? = some o) (hw : o.wr = true) (e2 : m[n]? = some a) (r : Gr K m H m (upd H a u) -> RO K m (upd H a u) a o') :
    Wd K m (h.set n o') (upd H a u) /\ Gr K m H m (upd H a u) := by
  obtain ⟨v, ha, hv⟩ := (w.ob n o a e1 e2).some_of hw
  have g : Gr K m H m (upd H a u) := ⟨fun _ _ e => e, fun _ _ e => SqT.upd_w ha hv e, fun b o' u' e => by rw [upd_ne (ne_of e ha (fun z => by subst z; cases hv))]; exact e⟩
  have hn : n < h.length := (List.getElem?_eq_some_iff.mp e1).1
  have cs : ∀ (i : Nat) (o1 : O), (h.set n o')[i]? = some o1 -> (i = n /\ o1 = o') \/ (i ≠ n /\ h[i]? = some o1) := by
    intro i o1 e
    by_cases hi : n = i
    · subst hi
      rw [List.getElem?_set_self hn] at e
      exact .inl ⟨rfl, (Option.some.inj e).symm⟩
    · rw [List.getElem?_set_ne hi] at e
      exact .inr ⟨fun z => hi z.symm, e⟩
  refine ⟨⟨by simp [w.len], fun i j b o1 o2 x1 x2 x3 x4 w1 w2 => ?_, fun i o1 b x1 x2 => ?_⟩, g⟩
  · rcases cs i o1 x3 with ⟨z, _⟩ | ⟨ni, y3⟩
    · subst z
      rcases cs j o2 x4 with ⟨z, _⟩ | ⟨nj, y4⟩
      · exact z.symm
      · exact w.nd i j b o o2 x1 x2 e1 y4 hw w2
    · rcases cs j o2 x4 with ⟨z, _⟩ | ⟨nj, y4⟩
      · subst z
        exact w.nd i j b o1 o x1 x2 y3 e1 w1 hw
      · exact w.nd i j b o1 o2 x1 x2 y3 y4 w1 w2
  · rcases cs i o1 x1 with ⟨z1, z2⟩ | ⟨ni, y⟩
    · subst z1; subst z2
      rw [e2] at x2; cases x2
      exact r g
    · refine (w.ob i o1 b y x2).keepSet ha hv (fun hw1 z => ?_) g
      subst z
      exact ni (w.nd i n b _ _ x2 e2 y e1 hw1 hw)
theorem Wd.lstNew (w : Wd K m h H) {p : Addr} {ds : List D} {vs : List V} (hp : H p = none) (r : RDs K m H ds vs) : Wd K (m ++ [p]) (h ++ [.lst ds]) (upd H p (.lst vs)) /\ Gr K m H (m ++ [p]) (upd H p (.lst vs)) :=
  w.objNew hp fun g => ⟨vs, upd_same, r.mono g⟩
theorem Wd.lstSet (w : Wd K m h H) {n : Nat} {a : Addr} {ds es : List D} {us : List V} (e1 : h[n]? = some (.lst ds)) (e2 : m[n]? = some a) (r : RDs K m H es us) :
    (∃ vs, H a = some (.lst vs) /\ RDs K m H ds vs) /\ Wd K m (h.set n (.lst es)) (upd H a (.lst us)) /\ Gr K m H m (upd H a (.lst us)) :=
  ⟨w.ob n _ a e1 e2, w.objSet e1 rfl e2 fun g => ⟨us, upd_same, r.mono g⟩⟩
def lstOf : O -> Option (List D)
  | .lst l => some l
  | .ro l => some l
  | .dct _ => none
  | .dtt _ => none
  | .ded => none
  | .dtf _ => none
  | .ins _ _ => none
def lstAt (h : Hh) (n : Nat) : Option (List D) := (h[n]?).bind lstOf
theorem Wd.lst (w : Wd K m h H) {n : Nat} {ds : List D} (e : lstAt h n = some ds) : ∃ a vs, m[n]? = some a /\ SqL K H a vs /\ RDs K m H ds vs := by
  unfold lstAt at e
  cases q : h[n]? with
  | none => rw [q] at e; cases e
  | some o =>
    rw [q] at e
    obtain ⟨a, e1, r⟩ := w.at q
    cases o with
    | lst l =>
      obtain rfl : l = ds := Option.some.inj e
      obtain ⟨vs, h1, h2⟩ := r
      exact ⟨a, vs, e1, .of h1, h2⟩
    | ro l =>
      obtain rfl : l = ds := Option.some.inj e
      obtain ⟨vs, h1, h2⟩ := r
      exact ⟨a, vs, e1, h1.sq, h2⟩
    | dct l => cases e
    | dtt l => cases e
    | ded => cases e
    | dtf l => cases e
    | ins c l => cases e
end
end Ng
end
section
namespace Ng
open PySem PySem.Spec PyProof.Rows L2
abbrev nev : Value -> Shared -> Prop := fun _ _ => False
theorem hokHide {P : Program} {w : World} {H : Hp} {h : Heap} {fs : List Addr} (x : HOk P w H h) (nf : ∀ b ∈ fs, H b = none) : HOk P w H (PySem.W.hideAll h fs) := fun a o e =>
  (x a o e).stay (fun b u hb q => PySem.W.hideAll_get _ q fun hm => by
    rcases hb with rfl | hb
    · rw [nf _ hm] at e; cases e
    · rw [nf _ hm] at hb; cases hb) (fun _ q => q) fun _ _ q => q
structure Fly (P : Program) (w : World) (l : List Env) (H : Hp) (s : Heap) (Hs : Hp) (e C : Addr) (h B : Heap) : Prop where
  fl : ∃ t, Heap.FlyingW B l e (.ref C) (.ref t) h
  hok : HOk P w H B
  kb : ∀ b o, s.get? b = some o -> Hs b = none -> b ∉ frs l -> B.get? b = some o
  kt : ∀ b o, s.get? b = some o -> b ∉ frs l -> ∃ o', B.get? b = some o'
def CX1 (P : Program) (w : World) : CXT := fun outer Hs s E e s' => ∃ H' B ea C, e = .ref ea /\ s'.os = s.os /\ AllBare s'.gens /\ Un (frs outer) [] Hs H' s.heap s'.heap /\ Fly P w outer H' s.heap Hs ea C s'.heap B /\ E e (some C) H'
theorem pass1 {X : Cx} : Passes (CX1 X.prog X.w) X E0 := fun _ _ _ _ _ _ _ ⟨_, _, _, _, _, _, _, _, _, z⟩ => z.elim
theorem un_fly {fs : List Addr} {H H' : Hp} {h h1 h2 B : Heap} (u : Un fs [] H H' h h1) (kb : ∀ b o, h.get? b = some o -> H b = none -> b ∉ fs -> B.get? b = some o) (kt : ∀ b o, h.get? b = some o -> b ∉ fs -> ∃ o', B.get? b = some o')
    (st : B.StaysIn h2) (up : h1.UpToSlots h2) (fr : ∀ b ∈ fs, ∀ o, h1.get? b = some o -> ∀ vs, o.data ≠ .fields vs) : Un fs [] H H' h h2 where
  keep := fun b o e n hb _ => st b o (kb b o e n hb)
  slot := fun b o e n hb hx => by
    obtain ⟨sl, e1⟩ := u.slot b o e n hb hx
    obtain ⟨sl', e2⟩ := up b _ e1 (fr b hb _ e1)
    exact ⟨sl', e2⟩
  free := u.free
  there := fun b o e hx => by
    by_cases hb : b ∈ fs
    · obtain ⟨o1, e1⟩ := u.there b o e hx
      obtain ⟨sl, e2⟩ := up b o1 e1 (fr b hb _ e1)
      exact ⟨_, e2⟩
    · obtain ⟨o', e'⟩ := kt b o e hb
      exact ⟨o', st b o' e'⟩
  tups := u.tups
  frzs := u.frzs
  tbls := u.tbls
structure FlyX (X : Cx) (pins : List (Addr × Obj)) (H : Hp) (e C : Addr) (s : Shared) (B : Heap) : Prop where
  fly : Fly X.prog X.w X.stack H X.s₀.heap X.H₀ e C s.heap B
  pc1 : ∀ p ∈ X.pn ++ pins, B.get? p.1 = some p.2
  pc2 : ∀ x c, X.env.cells.lookup x = some c -> ∃ o, s.heap.get? c = some o /\ B.get? c = some o
section
variable {X : Cx} {pins : List (Addr × Obj)} {σ : Sg} {H : Hp} {s : Shared}
theorem frames_data (I : Inv X pins σ H s) : ∀ b ∈ frs X.stack, ∀ o, s.heap.get? b = some o -> ∀ vs, o.data ≠ .fields vs := fun b hb o e vs q => by
  obtain ⟨_, o', e', nf⟩ := I.stack.mem hb
  rw [e] at e'; cases e'
  exact nf vs q
theorem old_not (I : Inv X pins σ H s) {b : Addr} {o : Obj} (e : X.s₀.heap.get? b = some o) (hb : b ∉ frs X.outer) : b ∉ frs X.stack := fun hm => by
  rcases List.mem_cons.mp (I.stkSub b hm) with z | z
  · exact absurd (Heap.lt_size e) (by rw [z]; exact Nat.not_lt.mpr I.ok.above)
  · exact hb z
end
theorem objOk_some {P : Program} {w : World} {H : Hp} {h : Heap} {a : Addr} : ∀ {o : HO}, ObjOk P w H h a o -> ∃ u, h.get? a = some u := by
  intro o x
  cases o with
  | lst xs => obtain ⟨_, _, _, _, e⟩ := x; exact ⟨_, e⟩
  | tup xs => obtain ⟨_, _, _, o, e, _⟩ := x; exact ⟨_, e⟩
  | dK kvs => obtain ⟨_, _, _, _, o, _, _, e, _⟩ := x; exact ⟨_, e⟩
  | dT kvs => obtain ⟨_, _, _, _, o, _, _, e, _⟩ := x; exact ⟨_, e⟩
  | set S n => obtain ⟨o, _, _, _, e, _⟩ := x; exact ⟨_, e⟩
  | ins C dx fs => obtain ⟨_, _, _, e, _⟩ := x; exact ⟨_, e⟩
  | own y => obtain ⟨_, e⟩ := x; exact ⟨_, e⟩
  | xd fs => obtain ⟨_, ⟨_, _, _, e, _⟩, _⟩ := x; exact ⟨_, e⟩
  | rng lo hi => obtain ⟨_, _, _, e⟩ := x; exact ⟨_, e⟩
  | frz ob u => obtain ⟨e, _⟩ := x; exact ⟨_, e⟩
  | tbl ps => exact ⟨_, x⟩
  | met f y => exact ⟨_, x⟩
  | ext φ => obtain ⟨_, ⟨_, e⟩, _⟩ := x; exact ⟨_, e⟩
structure XX (X : Cx) (ca : Nat -> Addr) (W : Nat -> Sg -> Hp -> Prop) (rz : Bool) : Prop where
  ex : X.ex = []
  stk : X.stack = X.env :: X.outer /\ X.env.frame = some X.env.locals
  fly : ∀ (pins : List (Addr × Obj)) (σ : Sg) (H : Hp) (s : Shared) (e : Addr) (c : Nat), Inv X pins σ H s -> (∃ B, FlyX X pins H e (ca c) s B) -> W c σ H -> X.xe (.ref e) s
  made : rz = true -> ∀ (pins : List (Addr × Obj)) (σ : Sg) (H : Hp) (s : Shared) (h' : Heap) (e : Addr) (c : Nat) (args : List Value), Inv X pins σ H s -> Heap.MadeExcOf s.heap h' e (.ref (ca c)) args -> W c σ H -> X.xe (.ref e) { s with heap := h' }
section
variable {P : Program} {w : World} {K : PySem.W.Frag} {mg : Str -> Option Value} {base : Heap} {N : List Str} {qual : Str} {scope : Scope} {f : Addr} {cd : Value} {A : Around} {outer : List Env} {s₀ : Shared} {H₀ : Hp} {E : XK} {ca : Nat -> Addr}
theorem fnXX : XX (cxOf (CX1 P w) P w K mg base N qual scope f cd A outer s₀ H₀ E) ca (fun c _ H => ∀ v, E v (some (ca c)) H) true where
  ex := rfl
  stk := ⟨rfl, rfl⟩
  fly := fun pins σ H s e c I ⟨B, F⟩ hW => by
    have F := F.fly
    obtain ⟨t, fl⟩ := id F.fl
    refine wpAny_leaves_onW (L := s₀.heap.objs.size) I.ok.frames rfl fl fun h' fl' up => ?_
    refine ⟨H, B, e, ca c, rfl, I.os, I.bare, ?_, ⟨⟨t, fl'⟩, F.hok, fun b o e1 n hb => F.kb b o e1 n (old_not I e1 hb), fun b o e1 hb => F.kt b o e1 (old_not I e1 hb)⟩, hW _⟩
    exact un_fly (h1 := s.heap) I.base (fun b o e1 n hb => F.kb b o e1 n (old_not I e1 hb)) (fun b o e1 hb => F.kt b o e1 (old_not I e1 hb)) fl'.1 up fun b hb o e1 => frames_data I b (List.mem_cons_of_mem _ hb) o e1
  made := fun _ pins σ H s h1 e c args I hx hW => by
    have hin : ∀ env ∈ (cxOf (CX1 P w) P w K mg base N qual scope f cd A outer s₀ H₀ E).stack, ∀ b, env.frame = some b -> b ∈ frs (cxOf (CX1 P w) P w K mg base N qual scope f cd A outer s₀ H₀ E).stack := fun env he b hb => List.mem_filterMap.mpr ⟨env, he, hb⟩
    refine wpAny_leaves_madeW (s := { s with heap := h1 }) (h := s.heap) (base := PySem.W.hideAll s.heap (frs (cxOf (CX1 P w) P w K mg base N qual scope f cd A outer s₀ H₀ E).stack)) (L := s₀.heap.objs.size) I.ok.frames rfl (fun b o q => PySem.W.of_hideAll _ q) (PySem.W.funFrames_hide I.stack hin) hx fun h' t fl' _ _ up => ?_
    have kb : ∀ b o, s₀.heap.get? b = some o -> H₀ b = none -> b ∉ frs outer -> (PySem.W.hideAll s.heap (frs (cxOf (CX1 P w) P w K mg base N qual scope f cd A outer s₀ H₀ E).stack)).get? b = some o := fun b o e1 n hb =>
      PySem.W.hideAll_get _ (I.base.keep b o e1 n hb (by simp [cxOf])) (old_not I e1 hb)
    have kt : ∀ b o, s₀.heap.get? b = some o -> b ∉ frs outer -> ∃ o', (PySem.W.hideAll s.heap (frs (cxOf (CX1 P w) P w K mg base N qual scope f cd A outer s₀ H₀ E).stack)).get? b = some o' := fun b o e1 hb => by
      obtain ⟨o1, e2⟩ := I.base.there b o e1 (by simp [cxOf])
      exact ⟨o1, PySem.W.hideAll_get _ e2 (old_not I e1 hb)⟩
    refine ⟨H, _, e, ca c, rfl, I.os, I.bare, ?_, ⟨⟨t, fl'⟩, hokHide I.hok I.stkFree, kb, kt⟩, hW _⟩
    have u1 : Un (frs outer) [] H₀ H s₀.heap h1 := by
      refine ⟨fun b o e1 n hb hn => hx.keeps _ _ (I.base.keep b o e1 n hb hn), fun b o e1 n hb hn => ?_, I.base.free, fun b o e1 hn => ?_, I.base.tups, I.base.frzs, I.base.tbls⟩
      · obtain ⟨sl, q⟩ := I.base.slot b o e1 n hb hn
        exact ⟨sl, hx.keeps _ _ q⟩
      · obtain ⟨o1, q⟩ := I.base.there b o e1 hn
        exact ⟨o1, hx.keeps _ _ q⟩
    refine un_fly (h1 := h1) u1 kb kt fl'.1 up fun b hb o e1 => ?_
    obtain ⟨_, o', e', nf⟩ := I.stack.mem (List.mem_cons_of_mem _ hb)
    have e2 := hx.keeps _ _ e'
    rw [e1] at e2; cases e2
    exact nf
end
end Ng
end
section
namespace Ng
open PySem PySem.Spec PyProof.Rows L2
section
variable {X : Cx} {pins : List (Addr × Obj)} {σ : Sg} {H : Hp} {s : Shared} {e C : Addr} {B : Heap} {oe : Obj}
end
end Ng
end
section
namespace Ng
open PySem PySem.Spec PyProof.Rows L2 PySem.W Builtin Builtin.ObjectAttr Builtin.Getset_descriptor
structure ExcN (K : PySem.W.Frag) (C : Addr) : Prop where
  ga : findIn K (.ref C) "__getattribute__" = some (some (.builtin "BaseException.__getattribute__"))
  gt : findIn K (.ref C) "__getattr__" = some none
  cl : findIn K (.ref C) "__class__" = some (some (.builtin "object.__class__"))
  gg : specialIn K (.builtin "object.__class__") "__get__" = some (some (.builtin "getset_descriptor.__get__"))
  tk : takesIn K (.builtin "object.__class__") = some true
  mr : mroIn K C (.type "object") = some true
  mb : mroIn K C (.type "BaseException") = some true
  ty : ∃ l n, excIn K C l n = true
section
variable {prog : Program} {w : World} {A : Around} {E : Value -> Shared -> Prop} {s : Shared} {K : PySem.W.Frag} {x C : Addr} {ox : Obj}
end
end Ng
end
section
namespace Ng
open PySem PySem.W PyProof.Rows
def KOk (n : Nat) (L : Nat -> Nat -> Bool) {α : Type} : KasT α -> (α -> Prop) -> Prop
  | .ret a, Q => Q a
  | .ask i j k, Q => i < n /\ j < n /\ i ≠ j /\ KOk n L (k (L i j)) Q
section
variable {n : Nat} {L : Nat -> Nat -> Bool} {α β : Type}
theorem KOk.mono : ∀ {t : KasT α} {Q Q' : α -> Prop}, KOk n L t Q -> (∀ a, Q a -> Q' a) -> KOk n L t Q'
  | .ret a, _, _, h, c => c a h
  | .ask i j k, _, _, h, c => ⟨h.1, h.2.1, h.2.2.1, KOk.mono (t := k (L i j)) h.2.2.2 c⟩
theorem KOk.bind {f : α -> KasT β} {Q : β -> Prop} : ∀ {t : KasT α}, KOk n L t (fun a => KOk n L (f a) Q) -> KOk n L (t.bind f) Q
  | .ret a, h => h
  | .ask i j k, h => ⟨h.1, h.2.1, h.2.2.1, KOk.bind (t := k (L i j)) h.2.2.2⟩
theorem KOk.wp {cmp : Nat -> Nat -> (Bool -> Shared -> Prop) -> Shared -> Prop} {s : Shared} (hc : ∀ i j (C : Bool -> Shared -> Prop), i < n -> j < n -> i ≠ j -> C (L i j) s -> cmp i j C s) {R : α -> Shared -> Prop} : ∀ {t : KasT α} {Q : α -> Prop}, KOk n L t Q -> (∀ a, Q a -> R a s) -> t.kasWp cmp R s
  | .ret a, _, h, c => c a h
  | .ask i j k, _, h, c => hc i j _ h.1 h.2.1 h.2.2.1 (KOk.wp hc (t := k (L i j)) h.2.2.2 c)
end
abbrev gD (p : Array Nat) (i : Nat) : Nat := p.getD i 0
structure SO (n : Nat) (L : Nat -> Nat -> Bool) : Prop where
  tot : ∀ i j, i < n -> j < n -> i ≠ j -> L i j = true \/ L j i = true
  tr : ∀ i j k, i < n -> j < n -> k < n -> L i j = true -> L j k = true -> L i k = true
def PV (n : Nat) (p : Array Nat) : Prop := p.toList.Perm (List.range n)
def Sd (L : Nat -> Nat -> Bool) (p : Array Nat) (k : Nat) : Prop := ∀ i j, i < j -> j < k -> L (gD p i) (gD p j) = true
section
variable {n : Nat} {L : Nat -> Nat -> Bool} {p : Array Nat}
theorem PV.size (h : PV n p) : p.size = n := by
  have := h.length_eq
  simpa using this
theorem gD_eq {i : Nat} (h : i < p.size) : gD p i = p[i] := by simp [gD, Array.getD, h]
theorem PV.lt (h : PV n p) {i : Nat} (hi : i < n) : gD p i < n := by
  have hz := h.size
  rw [gD_eq (by omega)]
  have : p[i] ∈ p.toList := by simp
  exact List.mem_range.mp (h.mem_iff.mp this)
theorem PV.ne (h : PV n p) {i j : Nat} (hi : i < n) (hj : j < n) (hij : i ≠ j) : gD p i ≠ gD p j := by
  have hz := h.size
  have nd : p.toList.Nodup := h.nodup_iff.mpr List.nodup_range
  rw [gD_eq (by omega), gD_eq (by omega)]
  intro e
  rw [List.Nodup, List.pairwise_iff_getElem] at nd
  rcases Nat.lt_or_gt_of_ne hij with z | z
  · exact nd i j (by simpa using (by omega : i < p.size)) (by simpa using (by omega : j < p.size)) z (by simpa using e)
  · exact nd j i (by simpa using (by omega : j < p.size)) (by simpa using (by omega : i < p.size)) z (by simpa using e.symm)
theorem PV.perm {q : Array Nat} (h : PV n p) (e : q.Perm p) : PV n q := (Array.perm_iff_toList_perm.mp e).trans h
theorem so_le (so : SO n L) (h : PV n p) {i j : Nat} (hi : i < n) (hj : j < n) (hij : i ≠ j) (e : L (gD p j) (gD p i) = false) : L (gD p i) (gD p j) = true := by
  rcases so.tot _ _ (h.lt hi) (h.lt hj) (h.ne hi hj hij) with z | z
  · exact z
  · rw [e] at z; cases z
theorem Sd.snoc (so : SO n L) (h : PV n p) {k : Nat} (hk : k < n) (h1 : 1 <= k) (s : Sd L p k) (e : L (gD p (k - 1)) (gD p k) = true) : Sd L p (k + 1) := fun i j hij hj => by
  by_cases z : j < k
  · exact s i j hij z
  · have ej : j = k := by omega
    subst ej
    by_cases y : i = j - 1
    · subst y; exact e
    · exact so.tr _ _ _ (h.lt (by omega)) (h.lt (by omega)) (h.lt hk) (s i (j - 1) (by omega) (by omega)) e
theorem asc_ok (so : SO n L) (h : PV n p) : ∀ (f k : Nat), 1 <= k -> k + f <= n -> Sd L p k -> KOk n L (kas_asc p f k) (fun m => k <= m /\ m <= k + f /\ Sd L p m /\ (m < k + f -> L (gD p m) (gD p (m - 1)) = true))
  | 0, k, h1, h2, s => ⟨Nat.le_refl _, Nat.le_refl _, s, fun z => absurd z (Nat.lt_irrefl _)⟩
  | f + 1, k, h1, h2, s => by
    refine ⟨h.lt (by omega), h.lt (by omega), h.ne (by omega) (by omega) (by omega), ?_⟩
    cases e : L (gD p k) (gD p (k - 1)) with
    | true => exact ⟨Nat.le_refl _, by omega, s, fun _ => e⟩
    | false =>
      refine KOk.mono (asc_ok so h f (k + 1) (by omega) (by omega) (s.snoc so h (by omega) h1 (so_le so h (by omega) (by omega) (by omega) e))) fun m ⟨a, b, c, d⟩ => ⟨by omega, by omega, c, fun z => d (by omega)⟩
def Ds (L : Nat -> Nat -> Bool) (p : Array Nat) (k : Nat) : Prop := ∀ i j, i < j -> j < k -> L (gD p j) (gD p i) = true
theorem Ds.snoc (so : SO n L) (h : PV n p) {k : Nat} (hk : k < n) (h1 : 1 <= k) (s : Ds L p k) (e : L (gD p k) (gD p (k - 1)) = true) : Ds L p (k + 1) := fun i j hij hj => by
  by_cases z : j < k
  · exact s i j hij z
  · have ej : j = k := by omega
    subst ej
    by_cases y : i = j - 1
    · subst y; exact e
    · exact so.tr _ _ _ (h.lt hk) (h.lt (by omega)) (h.lt (by omega)) e (s i (j - 1) (by omega) (by omega))
theorem desc_ok (so : SO n L) (h : PV n p) : ∀ (f k : Nat), 1 <= k -> k + f <= n -> Ds L p k -> KOk n L (kas_desc f p k 0) (fun r => r.1 = p /\ r.2.2 = 0 /\ k <= r.2.1 /\ r.2.1 <= k + f /\ Ds L p r.2.1)
  | 0, k, h1, h2, s => ⟨rfl, rfl, Nat.le_refl _, Nat.le_refl _, s⟩
  | f + 1, k, h1, h2, s => by
    refine ⟨h.lt (by omega), h.lt (by omega), h.ne (by omega) (by omega) (by omega), ?_⟩
    cases e : L (gD p k) (gD p (k - 1)) with
    | true =>
      refine KOk.mono (desc_ok so h f (k + 1) (by omega) (by omega) (s.snoc so h (by omega) h1 e)) fun r ⟨a, b, c, d, x⟩ => ⟨a, b, by omega, by omega, x⟩
    | false =>
      have e' := so_le so h (i := k - 1) (j := k) (by omega) (by omega) (by omega) e
      refine ⟨h.lt (by omega), h.lt (by omega), h.ne (by omega) (by omega) (by omega), ?_⟩
      rw [show L (p.getD (k - 1) 0) (p.getD k 0) = true from e']
      exact ⟨rfl, rfl, Nat.le_refl _, Nat.le_add_right k (f + 1), s⟩
theorem rev_get {k : Nat} (hm : k <= p.size) (i : Nat) : gD (kas_rev p 0 k) i = if i < k then gD p (k - 1 - i) else gD p i := by
  have e := getElem?_mirror_all (i := 0) (j := k) hm i
  unfold kas_rev
  have g : ∀ (q : Array Nat) (i : Nat), gD q i = (q[i]?).getD 0 := fun q i => by simp [gD, Array.getD_eq_getD_getElem?]
  rw [g, e]
  by_cases hi : i < k
  · rw [if_pos ⟨Nat.zero_le _, hi⟩, if_pos hi, g, show 0 + k - 1 - i = k - 1 - i by omega]
  · rw [if_neg (fun z => hi z.2), if_neg hi, g]
theorem tail_ok (so : SO n L) (h : PV n p) {m : Nat} (h1 : 1 <= m) (hm : m <= n) (s : Ds L p m) : KOk n L (kas_tail3 m n p) (fun r => PV n r.2 /\ m <= r.1 /\ r.1 <= n /\ Sd L r.2 r.1) := by
  have hz := h.size
  have hp : PV n (kas_rev p 0 m) := h.perm (mirror_perm _ _ _ _)
  have hs : Sd L (kas_rev p 0 m) m := fun i j hij hj => by
    rw [rev_get (by omega), rev_get (by omega), if_pos (by omega), if_pos hj]
    exact s (m - 1 - j) (m - 1 - i) (by omega) (by omega)
  unfold kas_tail3
  exact KOk.bind (KOk.mono (asc_ok so hp (n - m) m h1 (by omega) hs) fun r ⟨a, b, c, _⟩ => ⟨hp, a, by omega, c⟩)
theorem count_ok (so : SO n L) (h : PV n p) (h2 : 2 <= n) : KOk n L (kas_count n p) (fun r => PV n r.2 /\ 1 <= r.1 /\ r.1 <= n /\ Sd L r.2 r.1) := by
  unfold kas_count
  refine KOk.bind (KOk.mono (asc_ok so h (n - 1) 1 (Nat.le_refl _) (by omega) fun i j a b => by omega) fun m ⟨a, b, c, d⟩ => ?_)
  by_cases e : m = n
  · subst e
    rw [if_pos (by simp)]
    exact ⟨h, a, Nat.le_refl _, c⟩
  · rw [if_neg (by simpa using e)]
    by_cases g : m > 1
    · rw [if_pos g]
      refine ⟨h.lt (by omega), h.lt (by omega), h.ne (by omega) (by omega) (by omega), ?_⟩
      have e2 : L (p.getD 0 0) (p.getD (m - 1) 0) = true := c 0 (m - 1) (by omega) (by omega)
      rw [e2]
      show KOk n L (if true = true then KasT.ret (m, p) else _) _
      rw [if_pos rfl]
      exact ⟨h, a, (by show m <= n; omega), c⟩
    · rw [if_neg g]
      have em : m = 1 := by omega
      subst em
      unfold kas_descPart
      have d' := d (by omega)
      refine KOk.bind (KOk.mono (desc_ok so h (n - (1 + 1)) (1 + 1) (by omega) (by omega) fun i j a b => ?_) fun r ⟨x1, x2, x3, x4, x5⟩ => ?_)
      · have : j = 1 := by omega
        have : i = 0 := by omega
        subst_vars
        exact d'
      · rw [x2, if_neg (by omega), x1]
        exact KOk.mono (tail_ok so h (by omega) (by omega) x5) fun r ⟨y1, y2, y3, y4⟩ => ⟨y1, by omega, y3, y4⟩
theorem place_ok (so : SO n L) (h : PV n p) {k : Nat} (hk : k < n) (s : Sd L p k) : ∀ (f l r : Nat), l <= r -> r <= k -> r - l <= f -> (∀ i, i < l -> L (gD p i) (gD p k) = true) -> (∀ i, r <= i -> i < k -> L (gD p k) (gD p i) = true) ->
    KOk n L (kas_place p k f l r) (fun m => m <= k /\ (∀ i, i < m -> L (gD p i) (gD p k) = true) /\ ∀ i, m <= i -> i < k -> L (gD p k) (gD p i) = true)
  | 0, l, r, h1, h2, h3, a, b => by
    have : l = r := by omega
    subst this
    exact ⟨h2, a, b⟩
  | f + 1, l, r, h1, h2, h3, a, b => by
    unfold kas_place
    by_cases g : l ≥ r
    · rw [if_pos g]
      have : l = r := by omega
      subst this
      exact ⟨h2, a, b⟩
    · rw [if_neg g]
      have hm1 : l <= (l + r) / 2 := by omega
      have hm2 : (l + r) / 2 < r := by omega
      generalize (l + r) / 2 = m at hm1 hm2 ⊢
      have hmk : m < k := Nat.lt_of_lt_of_le hm2 h2
      have hmn := Nat.lt_trans hmk hk
      refine ⟨h.lt hk, h.lt hmn, h.ne hk hmn (Nat.ne_of_gt hmk), ?_⟩
      cases e : L (p.getD k 0) (p.getD m 0) with
      | true =>
        refine place_ok so h hk s f l m hm1 (Nat.le_of_lt hmk) (by omega) a fun i x y => ?_
        by_cases z : i = m
        · subst z; exact e
        · exact so.tr _ _ _ (h.lt hk) (h.lt hmn) (h.lt (Nat.lt_trans y hk)) e (s _ _ (Nat.lt_of_le_of_ne x (Ne.symm z)) y)
      | false =>
        have e' := so_le so h (i := m) (j := k) hmn hk (Nat.ne_of_lt hmk) e
        refine place_ok so h hk s f (m + 1) r hm2 h2 (by omega) (fun i x => ?_) b
        by_cases z : i = m
        · subst z; exact e'
        · have him : i < m := Nat.lt_of_le_of_ne (Nat.le_of_lt_succ x) z
          exact so.tr _ _ _ (h.lt (Nat.lt_trans him hmn)) (h.lt hmn) (h.lt hk) (s i _ him hmk) e'
theorem bub_get {k l : Nat} (hk : k < p.size) (hl : l <= k) (i : Nat) : gD (bubble p k (k - l)) i = if i = l then gD p k else if l < i /\ i <= k then gD p (i - 1) else gD p i := by
  have e := getElem?_bubble hk (k - l) (by omega) i
  have g : ∀ (q : Array Nat) (i : Nat), gD q i = (q[i]?).getD 0 := fun q i => by simp [gD, Array.getD_eq_getD_getElem?]
  rw [show k - (k - l) = l by omega] at e
  rw [g, e]
  by_cases h1 : i = l
  · rw [if_pos h1, if_pos h1, g]
  · rw [if_neg h1, if_neg h1]
    by_cases h2 : l < i /\ i <= k
    · rw [if_pos h2, if_pos h2, g]
    · rw [if_neg h2, if_neg h2, g]
end
theorem bin_ok {n : Nat} {L : Nat -> Nat -> Bool} (so : SO n L) : ∀ (f k : Nat) (p : Array Nat), k + f = n -> PV n p -> Sd L p k -> KOk n L (kas_bin f p k) (fun q => PV n q /\ Sd L q n)
  | 0, k, p, hk, h, s => ⟨h, by rw [<- hk]; exact s⟩
  | f + 1, k, p, hk, h, s => by
    have hz := h.size
    unfold kas_bin
    refine KOk.bind (KOk.mono (place_ok so h (by omega) s k 0 k (by omega) (Nat.le_refl _) (by omega) (fun i z => by omega) fun i x y => by omega) fun l ⟨a, b, c⟩ => ?_)
    refine bin_ok so f (k + 1) _ (by omega) (h.perm (bubble_perm _ _ _)) fun i j hij hj => ?_
    rw [bub_get (by omega) a, bub_get (by omega) a]
    by_cases i1 : i = l
    · rw [if_pos i1, if_neg (by omega), if_pos (by omega)]
      exact c _ (by omega) (by omega)
    · rw [if_neg i1]
      by_cases j1 : j = l
      · rw [if_neg (by omega), if_pos j1]
        exact b _ (by omega)
      · rw [if_neg j1]
        by_cases i2 : l < i /\ i <= k
        · rw [if_pos i2, if_pos (by omega)]
          exact s _ _ (by omega) (by omega)
        · rw [if_neg i2]
          by_cases j2 : l < j /\ j <= k
          · rw [if_pos j2]
            exact s _ _ (by omega) (by omega)
          · rw [if_neg j2]
            exact s _ _ (by omega) (by omega)
theorem sort_ok {n : Nat} {L : Nat -> Nat -> Bool} (so : SO n L) (h2 : 2 <= n) : KOk n L (kas_sort n) (fun q => PV n q /\ Sd L q n) := by
  have h0 : PV n (List.toArray (List.range n)) := by unfold PV; simp
  unfold kas_sort
  refine KOk.bind (KOk.mono (count_ok so h0 h2) fun r ⟨a, b, c, d⟩ => ?_)
  by_cases g : r.1 < n
  · rw [if_pos g, show max r.1 1 = r.1 by omega]
    exact bin_ok so _ _ _ (by omega) a d
  · rw [if_neg g]
    have : r.1 = n := by omega
    rw [this] at d
    exact ⟨a, d⟩
section
variable {δ : Type}
theorem chain_uniq {R : δ -> δ -> Prop} (as : ∀ x y, R x y -> R y x -> False) : ∀ {l1 l2 : List δ}, l1.Perm l2 -> l1.Pairwise R -> l2.Pairwise R -> l1 = l2
  | [], l2, hp, _, _ => (List.nil_perm.mp hp).symm
  | x :: l1, [], hp, _, _ => absurd (List.perm_nil.mp hp) (by simp)
  | x :: l1, y :: l2, hp, h1, h2 => by
    have exy : x = y := by
      obtain ⟨a1, b1⟩ := List.pairwise_cons.mp h1
      obtain ⟨a2, b2⟩ := List.pairwise_cons.mp h2
      have hx : x ∈ y :: l2 := hp.mem_iff.mp List.mem_cons_self
      have hy : y ∈ x :: l1 := hp.mem_iff.mpr List.mem_cons_self
      rcases List.mem_cons.mp hx with z | z
      · exact z
      · rcases List.mem_cons.mp hy with w | w
        · exact w.symm
        · exact (as x y (a1 y w) (a2 x z)).elim
    subst exy
    rw [chain_uniq as (List.perm_cons x |>.mp hp) (List.pairwise_cons.mp h1).2 (List.pairwise_cons.mp h2).2]
def Bef (lt : δ -> δ -> Option Bool) (x y : δ) : Prop := lt x y = some true /\ lt y x = some false
theorem Bef.asy {lt : δ -> δ -> Option Bool} {x y : δ} (a : Bef lt x y) (b : Bef lt y x) : False := by
  have := a.1; rw [b.2] at this; cases this
theorem chain_ix {lt : δ -> δ -> Option Bool} {l : List δ} (h : l.Pairwise (Bef lt)) {i j : Nat} (hi : i < l.length) (hj : j < l.length) (ne : i ≠ j) : (lt l[i] l[j] = some true -> i < j) /\ (i < j -> Bef lt l[i] l[j]) := by
  rw [List.pairwise_iff_getElem] at h
  refine ⟨fun e => ?_, fun z => h i j hi hj z⟩
  rcases Nat.lt_trichotomy i j with z | z | z
  · exact z
  · exact absurd z ne
  · have := (h j i hj hi z).2
    rw [e] at this; cases this
theorem chain_nd {lt : δ -> δ -> Option Bool} {l : List δ} (h : l.Pairwise (Bef lt)) : l.Nodup := h.imp fun a z => by
  subst z
  have := a.1; rw [a.2] at this; cases this
theorem pos_of {l l' : List δ} (hp : l'.Perm l) {i : Nat} {x : δ} (e : l[i]? = some x) : ∃ k : Nat, l'[k]? = some x := by
  obtain ⟨k, hk, z⟩ := List.mem_iff_getElem.mp (hp.mem_iff.mpr (List.mem_of_getElem? e))
  exact ⟨k, by rw [List.getElem?_eq_getElem hk, z]⟩
theorem get_inj {l : List δ} (nd : l.Nodup) {i j : Nat} {x : δ} (a : l[i]? = some x) (b : l[j]? = some x) : i = j := by
  obtain ⟨hi, ei⟩ := List.getElem?_eq_some_iff.mp a
  obtain ⟨hj, ej⟩ := List.getElem?_eq_some_iff.mp b
  rw [List.Nodup, List.pairwise_iff_getElem] at nd
  rcases Nat.lt_trichotomy i j with z | z | z
  · exact (nd i j hi hj z (ei.trans ej.symm)).elim
  · exact z
  · exact (nd j i hj hi z (ej.trans ei.symm)).elim
theorem ch_lt {lt : δ -> δ -> Option Bool} {l : List δ} (h : l.Pairwise (Bef lt)) {a b : Nat} {x y : δ} (ha : l[a]? = some x) (hb : l[b]? = some y) (ne : a ≠ b) : (lt x y = some true ↔ a < b) /\ (a < b -> Bef lt x y) := by
  obtain ⟨hi, rfl⟩ := List.getElem?_eq_some_iff.mp ha
  obtain ⟨hj, rfl⟩ := List.getElem?_eq_some_iff.mp hb
  obtain ⟨p, q⟩ := chain_ix h hi hj ne
  exact ⟨⟨p, fun z => (q z).1⟩, q⟩
theorem so_of {lt : δ -> δ -> Option Bool} {l l' : List δ} (hp : l'.Perm l) (h : l'.Pairwise (Bef lt)) {L : Nat -> Nat -> Bool} (hne : ∀ i, L i i = false) (hL : ∀ (i j : Nat) (x y : δ), l[i]? = some x -> l[j]? = some y -> i ≠ j -> (L i j = true ↔ lt x y = some true)) : SO l.length L := by
  have nd' := chain_nd h
  have nd : l.Nodup := hp.nodup_iff.mp nd'
  have g : ∀ i, i < l.length -> ∃ x, l[i]? = some x := fun i hi => ⟨_, List.getElem?_eq_getElem hi⟩
  refine ⟨fun i j hi hj hij => ?_, fun i j k hi hj hk e1 e2 => ?_⟩
  · obtain ⟨x, ex⟩ := g i hi
    obtain ⟨y, ey⟩ := g j hj
    obtain ⟨a, ea⟩ := pos_of hp ex
    obtain ⟨b, eb⟩ := pos_of hp ey
    have nab : a ≠ b := fun z => by
      subst z; rw [ea] at eb; cases eb
      exact hij (get_inj nd ex ey)
    rcases Nat.lt_or_gt_of_ne nab with z | z
    · exact .inl ((hL i j x y ex ey hij).mpr ((ch_lt h ea eb nab).1.mpr z))
    · exact .inr ((hL j i y x ey ex (Ne.symm hij)).mpr ((ch_lt h eb ea (Ne.symm nab)).1.mpr z))
  · obtain ⟨x, ex⟩ := g i hi
    obtain ⟨y, ey⟩ := g j hj
    obtain ⟨z, ez⟩ := g k hk
    obtain ⟨a, ea⟩ := pos_of hp ex
    obtain ⟨b, eb⟩ := pos_of hp ey
    obtain ⟨c, ec⟩ := pos_of hp ez
    have nij : i ≠ j := fun q => by subst q; rw [hne] at e1; cases e1
    have njk : j ≠ k := fun q => by subst q; rw [hne] at e2; cases e2
    have nab : a ≠ b := fun q => by
      subst q; rw [ea] at eb; cases eb
      exact nij (get_inj nd ex ey)
    have nbc : b ≠ c := fun q => by
      subst q; rw [eb] at ec; cases ec
      exact njk (get_inj nd ey ez)
    have l1 := (ch_lt h ea eb nab).1.mp ((hL i j x y ex ey nij).mp e1)
    have l2 := (ch_lt h eb ec nbc).1.mp ((hL j k y z ey ez njk).mp e2)
    have nik : i ≠ k := fun q => by
      subst q; rw [ex] at ez; cases ez
      have := get_inj nd' ea ec
      omega
    exact (hL i k x z ex ez nik).mpr ((ch_lt h ea ec (by omega)).1.mpr (by omega))
theorem map_range (l : List δ) (d : δ) : (List.range l.length).map (fun i => l.getD i d) = l := by
  apply List.ext_getElem?
  intro i
  rw [List.getElem?_map]
  by_cases hi : i < l.length
  · rw [List.getElem?_range hi, List.getElem?_eq_getElem hi]
    simp [List.getD_eq_getElem?_getD, List.getElem?_eq_getElem hi]
  · rw [List.getElem?_eq_none (by simpa using hi), List.getElem?_eq_none (by simpa using hi)]; rfl
theorem out_of {lt : δ -> δ -> Option Bool} {l l' : List δ} (hp : l'.Perm l) (h : l'.Pairwise (Bef lt)) {L : Nat -> Nat -> Bool} (hL : ∀ (i j : Nat) (x y : δ), l[i]? = some x -> l[j]? = some y -> i ≠ j -> (L i j = true ↔ lt x y = some true)) {p : Array Nat} (hv : PV l.length p) (hs : Sd L p l.length) (d : δ) :
    p.toList.map (fun i => l.getD i d) = l' := by
  have nd' := chain_nd h
  have nd : l.Nodup := hp.nodup_iff.mp nd'
  refine chain_uniq (R := Bef lt) (fun _ _ => Bef.asy) (((hv.map _).trans (by rw [map_range])).trans hp.symm) ?_ h
  rw [List.pairwise_iff_getElem]
  intro a b ha hb hab
  rw [List.length_map, Array.length_toList] at ha hb
  have hz := hv.size
  have e : ∀ c (hc : c < p.size), (p.toList.map (fun i => l.getD i d))[c]'(by simpa using hc) = l.getD (gD p c) d := fun c hc => by
    rw [List.getElem_map, gD_eq hc]; rfl
  rw [e a ha, e b hb]
  have la := hv.lt (i := a) (by omega)
  have lb := hv.lt (i := b) (by omega)
  have nab := hv.ne (i := a) (j := b) (by omega) (by omega) (by omega)
  have g : ∀ i, i < l.length -> l[i]? = some (l.getD i d) := fun i hi => by simp [List.getD_eq_getElem?_getD, List.getElem?_eq_getElem hi]
  have t := (hL _ _ _ _ (g _ la) (g _ lb) nab).mp (hs a b hab (by omega))
  obtain ⟨x, ex⟩ := pos_of hp (g _ la)
  obtain ⟨y, ey⟩ := pos_of hp (g _ lb)
  have nxy : x ≠ y := fun q => by
    subst q; rw [ex] at ey
    have e2 := Option.some.inj ey
    exact nab (get_inj nd (g _ la) (by rw [e2]; exact g _ lb))
  exact (ch_lt h ex ey nxy).2 ((ch_lt h ex ey nxy).1.mp t)
end
end Ng
end
section
namespace Ng
open PySem PySem.Spec PyProof.Rows L2
inductive Bop where
  | add | sub | mul | fdiv | mod | pow
inductive Cop where
  | lt | le | gt | ge | eq | ne | is | isnot | inn | notin
inductive Ty where
  | int | bool | str | tuple | list
def Ty.nm : Ty -> String
  | .int => "int" | .bool => "bool" | .str => "str" | .tuple => "tuple" | .list => "list"
inductive Blt where
  | len | isinst | int | list | sorted | all | tup | zip
inductive Tg where
  | nm (i : Nat) | tp (l : List Nat) | tn (i j k : Nat)
inductive Ck where
  | r1 | r2 | sq | its | itf | st | zp
def setAll : List Nat -> List D -> Ev -> Ev
  | i :: is, d :: ds, r => setAll is ds (r.set i (some d))
  | _, _, r => r
def setT : Tg -> D -> Ev -> Option Ev
  | .nm i, d, r => some (r.set i (some d))
  | .tp l, .tup ds, r => if ds.length = l.length then some (setAll l ds r) else none
  | .tn i j k, .tup [.tup [a, b], c], r => some (((r.set i (some a)).set j (some b)).set k (some c))
  | _, _, _ => none
def rngD (i j : Int) : List D := (List.range (j - i).toNat).map fun (k : Nat) => D.int (i + k)
def okR (j : Int) : Prop := -(2 ^ 62) <= j /\ j < 2 ^ 62
instance (j : Int) : Decidable (okR j) := by unfold okR; infer_instance
mutual
inductive E where
  | var (i : Nat) | int (i : Int) | bl (b : Bool) | non | str (x : Str) | gc (g : Nat) | ty (t : Ty)
  | bin (op : Bop) (a b : E) | neg (a : E) | cmp (op : Cop) (a b : E)
  | and (a b : E) | or (a b : E) | not (a : E) | ite (c a b : E)
  | ix (a b : E) | tup (l : Es) | lst (l : Es) | call (f : Nat) (l : Es) | blt (f : Blt) (l : Es) | app (o e : E)
  | comp (t : Tg) (k : Ck) (it cs : Es) (e : E) (N : List Str) (cap : List Nat)
  | mxd (mx : Bool) (l d : E) | lrg (e : E) | disp (ks : List Str) (vs : Es) | ins (o i e : E)
  | slU (a b : E) | slL (a b : E) | att (o : E) (cn f : Str) | new (cn : Str) (f : Nat) (l : Es) | slT (a b : E) | slA (a b : E) | slZ (a b : E) | mth (o : E) (cn m : Str) (f : Nat) (l : Es) | chn (op op' : Cop) (a b c : E) | rev (o : E) | dcT (t : Tg) (i k v : E) (N : List Str) (cap : List Nat) | dnw | dnt | get2 (o k d : E) | join (x : Str) (e : E) | fst (l : Es) | fmt (a : E) | spl (o : E) (x : Str) | stw (o : E) (x : Str) | rep (a b : E) | itx (a : E) | sof (a : E) | dcomp (t1 : Tg) (i1 : E) (t2 : Tg) (i2 k v : E) (N : List Str) (cap : List Nat)
inductive Es where
  | nil | cons (e : E) (r : Es)
end
def truD : D -> Hh -> Option Bool
  | .non, _ => some false
  | .bl b, _ => some b
  | .int i, _ => some (i != 0)
  | .str y, _ => if y.length <= sizeLine then some ((y.length : Int) != 0) else none
  | .tup l, _ => some (!l.isEmpty)
  | .ref n, h => match lstAt h n with
    | some l => some (!l.isEmpty)
    | none => none
  | .ty _, _ => none
def binD : Bop -> D -> D -> Hh -> Rs D
  | .add, .int i, .int j, h => .ok (.int (i + j)) h
  | .add, .str x, .str y, h => if x.length + y.length <= sizeLine then .ok (.str (x ++ y)) h else .bad
  | .add, .tup a, .tup b, h => if a.length + b.length <= 1000 /\ 0 < a.length /\ 0 < b.length then .ok (.tup (a ++ b)) h else .bad
  | .add, .ref n, .ref k, h => match h[n]?, h[k]? with
    | some (.lst a), some (.lst b) => if a.length + b.length <= 1000 then .ok (.ref h.length) (h ++ [.lst (a ++ b)]) else .bad
    | _, _ => .bad
  | .sub, .int i, .int j, h => .ok (.int (i - j)) h
  | .mul, .int i, .int j, h => if (-(2 ^ 64) < i /\ i < 2 ^ 64) \/ (-(2 ^ 64) < j /\ j < 2 ^ 64) then .ok (.int (i * j)) h else .bad
  | .fdiv, .int i, .int j, h => if 0 < j /\ j < 1073741824 then .ok (.int (i / j)) h else .bad
  | .mod, .int i, .int j, h => if 0 < j then .ok (.int (i % j)) h else .bad
  | .pow, .int i, .int j, h => if 0 <= j /\ j <= 1000000 /\ i.natAbs < 2 ^ 64 then .ok (.int (i ^ j.toNat)) h else .bad
  | _, _, _, _ => .bad
def eqL (f : D -> D -> Option Bool) : List D -> List D -> Option Bool
  | [], [] => some true
  | [], _ :: _ => some false
  | _ :: _, [] => some false
  | x :: xs, y :: ys => match f x y, eqL f xs ys with
    | some a, some b => some (a && b)
    | _, _ => none
def eqD : Nat -> D -> D -> Option Bool
  | _, .non, .non => some true
  | _, .non, .int _ => some false
  | _, .int _, .non => some false
  | _, .non, .str _ => some false
  | _, .str _, .non => some false
  | _, .int a, .int b => some (a == b)
  | _, .bl a, .bl b => some (a == b)
  | _, .str a, .str b => some (a == b)
  | _, .int _, .str _ => some false
  | _, .str _, .int _ => some false
  | n + 1, .tup a, .tup b => eqL (eqD n) a b
  | _, _, _ => none
def eqH : D -> D -> Hh -> Option Bool
  | .ref i, .ref j, h => match lstAt h i, lstAt h j with
    | some a, some b => if a.length = b.length then eqL (eqD 20) a b else some false
    | _, _ => none
  | x, y, _ => eqD 20 x y
def isNon : D -> Bool
  | .non => true
  | _ => false
def flat : D -> Bool
  | .non => true | .bl _ => true | .int _ => true | .str _ => true
  | _ => false
def eqF : D -> D -> Bool
  | .non, .non => true
  | .bl a, .bl b => a == b
  | .bl a, .int b => (if a then 1 else 0) == b
  | .int a, .bl b => a == (if b then 1 else 0)
  | .int a, .int b => a == b
  | .str a, .str b => a == b
  | _, _ => false
def inD (x : D) (l : List D) (neg : Bool) (h : Hh) : Rs D := if flat x = true /\ l.all flat = true then .ok (.bl (if neg then !(l.any fun y => eqF y x) else l.any fun y => eqF y x)) h else .bad
def seqD : D -> Hh -> Option (List D)
  | .tup l, _ => some l
  | .ref n, h => lstAt h n
  | _, _ => none
def dctAt (h : Hh) (x : D) : Option (List (Key × D)) := match x with
  | .ref n => match h[n]? with
    | some (.dct l) => some l
    | _ => none
  | _ => none
def keyD : D -> Option Key
  | .int i => some (.inl i)
  | .str x => some (.inr x)
  | _ => none
def valD (l : List (Key × D)) (k : Key) : Option D := (l.find? fun kv => decide (kv.1 = k)).map (·.2)
def inK (x : D) (l : List (Key × D)) (neg : Bool) (h : Hh) : Rs D := match keyD x with
  | some k => .ok (.bl (if neg then !(valD l k).isSome else (valD l k).isSome)) h
  | none => .bad
def putD (l : List (Key × D)) (k : Key) (v : D) : List (Key × D) := if l.any (fun kv => decide (kv.1 = k)) then l.map (fun kv => if kv.1 = k then (kv.1, v) else kv) else l ++ [(k, v)]
def get2D (x y z : D) (h : Hh) : Rs D := match dctAt h x, keyD y with
  | some l, some k => .ok ((valD l k).getD z) h
  | _, _ => .bad
def dputD (n : Nat) (y z : D) (h : Hh) : Rs Unit := match h[n]?, keyD y with
  | some (.dct l), some k => if l.length < 1000 then .ok () (h.set n (.dct (putD l k z))) else .bad
  | _, _ => .bad
def strsD : List D -> Option (List Str)
  | [] => some []
  | .str x :: r => (strsD r).map (x :: ·)
  | _ :: _ => none
def ltF : List D -> List D -> Option Bool
  | [], [] => some false
  | [], _ :: _ => some true
  | _ :: _, [] => some false
  | .int a :: xs, .int b :: ys => if a = b then ltF xs ys else some (decide (a < b))
  | .str a :: xs, .str b :: ys => if a = b then ltF xs ys else some (decide (a.cps.toList < b.cps.toList))
  | _, _ => none
def ltK : D -> D -> Option Bool
  | .int a, .int b => some (decide (a < b))
  | .str a, .str b => some (decide (a.cps.toList < b.cps.toList))
  | .tup a, .tup b => ltF a b
  | _, _ => none
def kdS : D -> Nat
  | .int _ => 1
  | .str _ => 2
  | .tup (.int _ :: _) => 3
  | .tup (.str _ :: _) => 4
  | _ => 0
def CanS (l : List D) : Prop := l.length < 64 /\ (l.length < 2 \/ ∃ k, k ≠ 0 /\ ∀ x ∈ l, kdS x = k)
open Classical in
noncomputable def srtD (l : List D) : Option (List D) := if h : CanS l /\ ∃ l' : List D, l'.Perm l /\ l'.Pairwise (Bef ltK) then some (Classical.choose h.2) else none
theorem srtD_of {l l' : List D} (e : srtD l = some l') : CanS l /\ l'.Perm l /\ l'.Pairwise (Bef ltK) := by
  unfold srtD at e
  split at e
  · rename_i h
    have q := Classical.choose_spec h.2
    have e' := Option.some.inj e
    rw [e'] at q
    exact ⟨h.1, q⟩
  · cases e
def dtfAt (h : Hh) (x : D) : Option (List (List Int × D)) := match x with
  | .ref n => match h[n]? with
    | some (.dtf l) => some l
    | _ => none
  | _ => none
def intsK : List D -> Option (List Int)
  | [] => some []
  | .int i :: r => (intsK r).map (i :: ·)
  | _ :: _ => none
def valT (l : List (List Int × D)) (k : List Int) : Option D := (l.find? fun kv => decide (kv.1 = k)).map (·.2)
def inX (x y : D) (h : Hh) : Option Bool := match x, y with
  | .str a, .str b => some (!(Builtin.Str.occurrences b a 0 b.length 1).isEmpty)
  | .tup ks, y => match dtfAt h y with
    | some l => (intsK ks).map fun k => (valT l k).isSome
    | none => none
  | _, _ => none
def inT (x : D) : List D -> Option Bool
  | [] => some false
  | y :: r => match eqD 20 y x, inT x r with
    | some a, some b => some (a || b)
    | _, _ => none
def inTs (x y : D) (l : List D) : Option Bool := match x, y with
  | .tup _, .ref _ => inT x l
  | _, _ => none
def cmpD : Cop -> D -> D -> Hh -> Rs D
  | .lt, .int i, .int j, h => .ok (.bl (decide (i < j))) h
  | .le, .int i, .int j, h => .ok (.bl (decide (i <= j))) h
  | .gt, .int i, .int j, h => .ok (.bl (decide (j < i))) h
  | .ge, .int i, .int j, h => .ok (.bl (decide (j <= i))) h
  | .eq, x, y, h => match eqH x y h with
    | some b => .ok (.bl b) h
    | none => .bad
  | .ne, x, y, h => match eqH x y h with
    | some b => .ok (.bl (!b)) h
    | none => .bad
  | .is, x, .non, h => .ok (.bl (isNon x)) h
  | .isnot, x, .non, h => .ok (.bl (!isNon x)) h
  | .inn, x, y, h => match inX x y h with
    | some b => .ok (.bl b) h
    | none => match dctAt h y with
      | some l => inK x l false h
      | none => match seqD y h with
        | some l => inD x l false h
        | none => .bad
  | .notin, x, y, h => match dctAt h y with
    | some l => inK x l true h
    | none => match seqD y h with
      | some l => match inTs x y l with
        | some b => .ok (.bl (!b)) h
        | none => inD x l true h
      | none => .bad
  | _, _, _, _ => .bad
def ixS (x y : D) (h : Hh) : Rs D := match seqD x h, y with
  | some l, .int i => match atI l i with
    | some d => .ok d h
    | none => .bad
  | _, _ => .bad
def ixK (l : List (Key × D)) (y : D) (h : Hh) : Rs D := match keyD y with
  | some k => match valD l k with
    | some d => .ok d h
    | none => .bad
  | none => .bad
def ixT (x : Str) (y : D) (h : Hh) : Rs D := match y with
  | .int i => if x.length <= sizeLine then (match atI x.cps.toList i with
    | some c => .ok (.str ⟨#[c]⟩) h
    | none => .bad) else .bad
  | _ => .bad
def ixF (l : List (List Int × D)) (y : D) (h : Hh) : Rs D := match y with
  | .tup ks => match (intsK ks).bind (valT l) with
    | some d => .ok d h
    | none => .bad
  | _ => .bad
def ixD (x y : D) (h : Hh) : Rs D := match x with
  | .str z => ixT z y h
  | x => match dctAt h x with
    | some l => ixK l y h
    | none => match dtfAt h x with
      | some l => ixF l y h
      | none => ixS x y h
def isLst : D -> Hh -> Bool
  | .ref n, h => (lstAt h n).isSome
  | _, _ => false
def tyD : D -> Hh -> Option Ty
  | .bl _, _ => some .bool
  | .int _, _ => some .int
  | .str _, _ => some .str
  | .tup _, _ => some .tuple
  | .ref n, h => match lstAt h n with
    | some _ => some .list
    | none => none
  | _, _ => none
def isTy : Ty -> String -> Bool
  | .bool, s => s == "bool" || s == "int"
  | t, s => t.nm == s
def tyNames : List String := ["int", "bool", "str", "tuple", "list"]
def isinD (x : D) (T : String) (h : Hh) : Option Bool := match x with
  | .non => if T ∈ tyNames then some false else none
  | x => match tyD x h with
    | some t => if T ∈ tyNames then some (isTy t T) else none
    | none => none
def tysOf : List D -> Option (List String)
  | [] => some []
  | .ty T :: r => match tysOf r with
    | some l => some (T :: l)
    | none => none
  | _ => none
def isinAny (x : D) (h : Hh) : List String -> Option Bool
  | [] => some false
  | T :: r => match isinD x T h, isinAny x h r with
    | some a, some b => some (a || b)
    | _, _ => none
def isinL (x : D) : D -> Hh -> Rs D
  | .ty T, h => match isinD x T h with
    | some b => .ok (.bl b) h
    | none => .bad
  | .tup l, h => match tysOf l with
    | some [] => .bad
    | some (T :: Ts) => match isinAny x h (T :: Ts) with
      | some b => .ok (.bl b) h
      | none => .bad
    | none => .bad
  | _, _ => .bad
def intL : D -> Hh -> Rs D
  | .int i, h => .ok (.int i) h
  | .bl b, h => .ok (.int (if b then 1 else 0)) h
  | _, _ => .bad
def lenL (x : D) (h : Hh) : Rs D := match seqD x h with
  | some l => .ok (.int l.length) h
  | none => match x with
    | .str z => if z.length <= sizeLine then .ok (.int z.length) h else .bad
    | x => match dtfAt h x with
      | some l => .ok (.int l.length) h
      | none => .bad
def blsD : List D -> Option (List Bool)
  | [] => some []
  | .bl b :: r => (blsD r).map (b :: ·)
  | _ :: _ => none
def allL (x : D) (h : Hh) : Rs D := match isLst x h, seqD x h with
  | true, some l => match blsD l with
    | some bs => .ok (.bl (bs.all id)) h
    | none => .bad
  | _, _ => .bad
def revD (x : D) (h : Hh) : Rs D := match x with
  | .ref n => match h[n]? with
    | some (.lst l) => .ok .non (h.set n (.lst l.reverse))
    | _ => .bad
  | _ => .bad
def listL (x : D) (h : Hh) : Rs D := match seqD x h with
  | some l => .ok (.ref h.length) (h ++ [.lst l])
  | none => .bad
noncomputable def srtL (x : D) (h : Hh) : Rs D := match isLst x h, seqD x h with
  | true, some l => match srtD l with
    | some l' => .ok (.ref h.length) (h ++ [.lst l'])
    | none => .bad
  | _, _ => .bad
def joinD (s : Str) (x : D) (h : Hh) : Rs D := match isLst x h, seqD x h with
  | true, some l => match strsD l with
    | some xs => if (xs.map (·.length)).sum + xs.length * s.length <= 100000 then .ok (.str (Txt.join s xs)) h else .bad
    | none => .bad
  | _, _ => .bad
def slTD (x y : D) (h : Hh) : Rs D := match x, y with
  | .tup l, .int i => if 0 <= i /\ i < (l.length : Int) then .ok (.tup (l.take i.toNat)) h else .bad
  | _, _ => .bad
def slAD (x y : D) (h : Hh) : Rs D := match x, y with
  | .str z, .int i => if 0 <= i /\ z.length <= 1000 then .ok (.str ⟨(z.cps.toList.take i.toNat).toArray⟩) h else .bad
  | _, _ => .bad
def slZD (x y : D) (h : Hh) : Rs D := match x, y with
  | .str z, .int i => if 0 <= i /\ z.length <= 1000 then .ok (.str ⟨(z.cps.toList.drop i.toNat).toArray⟩) h else .bad
  | _, _ => .bad
def slUD (x y : D) (h : Hh) : Rs D := match isLst x h, seqD x h, y with
  | true, some l, .int i => if 0 <= i then .ok (.ref h.length) (h ++ [.lst (l.take i.toNat)]) else .bad
  | _, _, _ => .bad
def slLD (x y : D) (h : Hh) : Rs D := match isLst x h, seqD x h, y with
  | true, some l, .int i => if 0 <= i then .ok (.ref h.length) (h ++ [.lst (l.drop i.toNat)]) else .ok (.ref h.length) (h ++ [.lst (l.drop (l.length - i.natAbs))])
  | _, _, _ => .bad
def tupL (x : D) (h : Hh) : Rs D := match isLst x h, seqD x h with
  | true, some l => .ok (.tup l) h
  | _, _ => .bad
def one (k : D -> Hh -> Rs D) : List D -> Hh -> Rs D
  | [x], h => k x h
  | _, _ => .bad
def two (k : D -> D -> Hh -> Rs D) : List D -> Hh -> Rs D
  | [x, y], h => k x y h
  | _, _ => .bad
def intsD : List D -> Option (List Int)
  | [] => some []
  | .int i :: r => (intsD r).map (i :: ·)
  | _ :: _ => none
def putT (l : List (List Int × D)) (k : List Int) (v : D) : List (List Int × D) := if l.any (fun kv => decide (kv.1 = k)) then l.map (fun kv => if kv.1 = k then (kv.1, v) else kv) else l ++ [(k, v)]
def dputT (n : Nat) (l : List (List Int × D)) (y z : D) (h : Hh) : Rs Unit := match y with
  | .tup ks => match intsD ks with
    | some k => if l.length < 1000 then .ok () (h.set n (.dtt (putT l k z))) else .bad
    | none => .bad
  | _ => .bad
def maxI (a : Int) (l : List Int) : Int := l.foldl (fun m x => if x > m then x else m) a
def minI (a : Int) (l : List Int) : Int := l.foldl (fun m x => if x < m then x else m) a
def bestI (mx : Bool) : Int -> List Int -> Int := if mx then maxI else minI
def bestD (mx : Bool) (x d : D) (h : Hh) : Rs D := match isLst x h, seqD x h with
  | true, some l => match intsD l with
    | some (i :: r) => .ok (.int (bestI mx i r)) h
    | some [] => .ok d h
    | none => .bad
  | _, _ => .bad
def lrgD (x : D) (h : Hh) : Rs D := match x with
  | .int j => if -(2 ^ 62) <= j /\ j <= 1000 then .ok (.ref h.length) (h ++ [.lst (rngD 0 j)]) else .bad
  | _ => .bad
def dispD (ks : List Str) (ds : List D) (n : Nat) (h : Hh) : Rs D := match h[n]? with
  | some (.dct []) => if ds.length = ks.length /\ ks.Nodup /\ ks.length <= 15 then .ok (.ref n) (h.set n (.dct ((ks.map Sum.inr).zip ds))) else .bad
  | _ => .bad
noncomputable def bltD : Blt -> List D -> Hh -> Rs D
  | .len => one lenL
  | .isinst => two isinL
  | .int => one intL
  | .list => one listL
  | .sorted => one srtL
  | .all => one allL
  | .tup => one tupL
  | .zip => fun _ _ => .bad
def appD (x y : D) (h : Hh) : Rs D := match x with
  | .ref n => match h[n]? with
    | some (.lst l) => if l.length < 1000000 then .ok .non (h.set n (.lst (l ++ [y]))) else .bad
    | _ => .bad
  | _ => .bad
def insD (x y z : D) (h : Hh) : Rs D := match x, y with
  | .ref n, .int i => match h[n]? with
    | some (.lst l) => if 0 <= i /\ i <= (l.length : Int) /\ l.length < 1000000 then .ok .non (h.set n (.lst (l.take i.toNat ++ z :: l.drop i.toNat))) else .bad
    | _ => .bad
  | _, _ => .bad
def fmtD (x : D) (h : Hh) : Rs D := match x with
  | .int i => if i.natAbs.log2 < 1920 then .ok (.str (toString i)) h else .bad
  | .str z => if z.length <= 100000 then .ok (.str z) h else .bad
  | _ => .bad
def catS : List Str -> Str
  | [] => Str.empty
  | x :: l => x ++ catS l
def fstD (l : List D) (h : Hh) : Rs D := match strsD l with
  | some xs => if (xs.map (·.length)).sum <= 100000 then .ok (.str (catS xs)) h else .bad
  | none => .bad
def splD (c : Str) (x : D) (h : Hh) : Rs D := match x with
  | .str z => if z.length <= 100000 /\ c.length = 1 then .ok (.ref h.length) (h ++ [.lst ((Txt.split z c).map D.str)]) else .bad
  | _ => .bad
def stwD (c : Str) (x : D) (h : Hh) : Rs D := match x with
  | .str z => .ok (.bl (Txt.startswith z c)) h
  | _ => .bad
def repD (x y : D) (h : Hh) : Rs D := match x, y with
  | .str z, .int i => if 0 <= i /\ i <= 1000 /\ z.length <= 1000 then .ok (.str ⟨(List.replicate i.toNat z.cps.toList).flatten.toArray⟩) h else .bad
  | _, _ => .bad
def itxD (x : D) (h : Hh) : Rs D := match x with
  | .str z => if z.length <= 640 then (match intText? z with
    | some i => .ok (.int i) h
    | none => .bad) else .bad
  | _ => .bad
def compS (t : Tg) (cs : Ev -> Hh -> Rs Bool) (f : Ev -> Hh -> Rs D) (n0 : Nat) : List D -> Ev -> Hh -> Rs Unit
  | [], _, h => .ok () h
  | d :: ds, r, h => match setT t d r with
    | none => .bad
    | some r1 => (cs r1 h).bind fun b h => if b = true then (f r1 h).bind fun y h => (appD (.ref n0) y h).bind fun _ h => compS t cs f n0 ds r1 h else compS t cs f n0 ds r1 h
def compI (t : Tg) (cs : Ev -> Hh -> Rs Bool) (f : Ev -> Hh -> Rs D) (n0 n : Nat) : Nat -> Nat -> Ev -> Hh -> Rs Unit
  | 0, _, _, _ => .bad
  | k + 1, i, r, h => match lstAt h n with
    | none => .bad
    | some l => match l[i]? with
      | none => .ok () h
      | some d => match setT t d r with
        | none => .bad
        | some r1 => (cs r1 h).bind fun b h => if b = true then (f r1 h).bind fun y h => (appD (.ref n0) y h).bind fun _ h => compI t cs f n0 n k (i + 1) r1 h else compI t cs f n0 n k (i + 1) r1 h
def compZ (t : Tg) (cs : Ev -> Hh -> Rs Bool) (f : Ev -> Hh -> Rs D) (n0 n : Nat) : Nat -> List D -> Ev -> Hh -> Rs Unit
  | i, ks, r, h => match ks with
    | [] => (match lstAt h n with
      | some l => if l.length <= i then .ok () h else .bad
      | none => .bad)
    | k :: ks => match lstAt h n with
      | none => .bad
      | some l => match l[i]? with
        | none => .bad
        | some d => match setT t (.tup [d, k]) r with
          | none => .bad
          | some r1 => (cs r1 h).bind fun b h => if b = true then (f r1 h).bind fun y h => (appD (.ref n0) y h).bind fun _ h => compZ t cs f n0 n (i + 1) ks r1 h else compZ t cs f n0 n (i + 1) ks r1 h
def compL (t : Tg) (cs : Ev -> Hh -> Rs Bool) (f : Ev -> Hh -> Rs D) (n0 : Nat) (k : Ck) (xs : List D) (h0 : Hh) (r : Ev) (h : Hh) : Rs Unit := match k, xs with
  | .r1, [.int j] => if okR j then compS t cs f n0 (rngD 0 j) r h else .bad
  | .r2, [.int i, .int j] => if okR i /\ okR j then compS t cs f n0 (rngD i j) r h else .bad
  | .st, [.str x] => if x.length <= 1000 then compS t cs f n0 (x.cps.toList.map fun c => D.str ⟨#[c]⟩) r h else .bad
  | .itf, [.ref n] => match h0[n]? with
    | some (.dtf l) => compS t cs f n0 (l.map fun p => D.tup [.tup (p.1.map D.int), p.2]) r h
    | _ => .bad
  | .its, [.ref n] => match h0[n]? with
    | some (.dtt l) => compS t cs f n0 (l.map fun p => D.tup [.tup (p.1.map D.int), p.2]) r (h.set n .ded)
    | _ => .bad
  | .sq, [.tup l] => compS t cs f n0 l r h
  | .zp, [.ref n, .tup l] => compZ t cs f n0 n 0 l r h
  | .sq, [.ref n] => match lstAt h0 n with
    | some l => compI t cs f n0 n (l.length + 1) 0 r h
    | none => .bad
  | _, _ => .bad
def dcS (t2 : Tg) (fk fv : Ev -> Hh -> Rs D) (n0 : Nat) : List D -> Ev -> Hh -> Rs Ev
  | [], r, h => .ok r h
  | d :: ds, r, h => match setT t2 d r with
    | none => .bad
    | some r1 => (fk r1 h).bind fun y h => (fv r1 h).bind fun z h => (dputD n0 y z h).bind fun _ h => dcS t2 fk fv n0 ds r1 h
def dcI (t1 : Tg) (fi : Ev -> Hh -> Rs D) (t2 : Tg) (fk fv : Ev -> Hh -> Rs D) (n0 n : Nat) : Nat -> Nat -> Ev -> Hh -> Rs Unit
  | 0, _, _, _ => .bad
  | k + 1, i, r, h => match lstAt h n with
    | none => .bad
    | some l => match l[i]? with
      | none => .ok () h
      | some d => match setT t1 d r with
        | none => .bad
        | some r1 => (fi r1 h).bind fun y h => match y with
          | .tup ds => (dcS t2 fk fv n0 ds r1 h).bind fun r2 h => dcI t1 fi t2 fk fv n0 n k (i + 1) r2 h
          | _ => .bad
def dcL (t1 : Tg) (fi : Ev -> Hh -> Rs D) (t2 : Tg) (fk fv : Ev -> Hh -> Rs D) (x : D) (r : Ev) (h : Hh) : Rs D := match x with
  | .ref n => match lstAt h n with
    | some l => (dcI t1 fi t2 fk fv h.length n (l.length + 1) 0 r (h ++ [.dct []])).bind fun _ h' => .ok (.ref h.length) h'
    | none => .bad
  | _ => .bad
def dputN (n : Nat) (y z : D) (h : Hh) : Rs Unit := match h[n]? with
  | some (.dtt l) => dputT n l y z h
  | _ => .bad
def dtI (t : Tg) (fk fv : Ev -> Hh -> Rs D) (n0 n : Nat) : Nat -> Nat -> Ev -> Hh -> Rs Unit
  | 0, _, _, _ => .bad
  | k + 1, i, r, h => match lstAt h n with
    | none => .bad
    | some l => match l[i]? with
      | none => .ok () h
      | some d => match setT t d r with
        | none => .bad
        | some r1 => (fk r1 h).bind fun y h => (fv r1 h).bind fun z h => (dputN n0 y z h).bind fun _ h => dtI t fk fv n0 n k (i + 1) r1 h
def dtZ (n : Nat) (h : Hh) : Rs D := match h[n]? with
  | some (.dtt l) => .ok (.ref n) (h.set n (.dtf l))
  | _ => .bad
def dtL (t : Tg) (fk fv : Ev -> Hh -> Rs D) (x : D) (r : Ev) (h : Hh) : Rs D := match x with
  | .ref n => match lstAt h n with
    | some l => (dtI t fk fv h.length n (l.length + 1) 0 r (h ++ [.dtt []])).bind fun _ h' => dtZ h.length h'
    | none => .bad
  | _ => .bad
def capV (r : Ev) (i : Nat) : Option D := match r[i]? with
  | some x => x
  | none => none
def blockE (N : List Str) (cap : List Nat) (r : Ev) : Ev := List.replicate (N.length - cap.length) none ++ cap.map (capV r)
structure Gs where
  fns : List Str
  csts : List (Str × D)
  excs : List Str := []
  sub : List (Nat × Nat) := []
  nsub : List (Nat × Nat) := []
  news : List (Str × Nat) := []
  meths : List (Str × Str × Nat) := []
  atts : List (Str × Str) := []
abbrev Cl := Nat -> List D -> Hh -> Rs D
def attD (cn : Str) (x : D) (f : Str) (h : Hh) : Rs D := match x with
  | .ref n => match h[n]? with
    | some (.ins c fs) => if c = cn then (match fs.lookup f with
      | some d => .ok d h
      | none => .bad) else .bad
    | _ => .bad
  | _ => .bad
def mthOk (x : D) (cn m : Str) (h : Hh) : Bool := match x with
  | .ref n => match h[n]? with
    | some (.ins c fs) => decide (c = cn) && (fs.lookup m).isNone
    | _ => false
  | _ => false
def putA (f : Str) (y : D) : List (Str × D) -> List (Str × D)
  | [] => [(f, y)]
  | (g, x) :: r => if g = f then (g, y) :: r else (g, x) :: putA f y r
def satD (cn : Str) (x y : D) (f : Str) (h : Hh) : Rs Unit := match x with
  | .ref n => match h[n]? with
    | some (.ins c fs) => if c = cn /\ fs.length < 900 then .ok () (h.set n (.ins c (putA f y fs))) else .bad
    | _ => .bad
  | _ => .bad
def newD (cn : Str) (f : List D -> Hh -> Rs D) (ds : List D) (h : Hh) : Rs D := (f (.ref h.length :: ds) (h ++ [.ins cn []])).bind fun d h' => match d with
  | .non => .ok (.ref h.length) h'
  | _ => .bad
mutual
noncomputable def ev (G : Gs) (cl : Cl) : E -> Ev -> Hh -> Rs D
  | .var i, r, h => match r[i]? with
    | some (some d) => .ok d h
    | _ => .bad
  | .int i, _, h => .ok (.int i) h
  | .bl b, _, h => .ok (.bl b) h
  | .non, _, h => .ok .non h
  | .str x, _, h => .ok (.str x) h
  | .gc g, _, h => match G.csts[g]? with
    | some p => .ok p.2 h
    | none => .bad
  | .ty t, _, h => .ok (.ty t.nm) h
  | .bin op a b, r, h => (ev G cl a r h).bind fun x h => (ev G cl b r h).bind fun y h => binD op x y h
  | .neg a, r, h => (ev G cl a r h).bind fun x h => match x with
    | .int i => .ok (.int (-i)) h
    | _ => .bad
  | .cmp op a b, r, h => (ev G cl a r h).bind fun x h => (ev G cl b r h).bind fun y h => cmpD op x y h
  | .and a b, r, h => (ev G cl a r h).bind fun x h => match truD x h with
    | some true => ev G cl b r h
    | some false => .ok x h
    | none => .bad
  | .or a b, r, h => (ev G cl a r h).bind fun x h => match truD x h with
    | some true => .ok x h
    | some false => ev G cl b r h
    | none => .bad
  | .not a, r, h => (ev G cl a r h).bind fun x h => match truD x h with
    | some b => .ok (.bl (!b)) h
    | none => .bad
  | .ite c a b, r, h => (ev G cl c r h).bind fun x h => match truD x h with
    | some true => ev G cl a r h
    | some false => ev G cl b r h
    | none => .bad
  | .ix a b, r, h => (ev G cl a r h).bind fun x h => (ev G cl b r h).bind fun y h => ixD x y h
  | .tup l, r, h => (evs G cl l r h).bind fun ds h => if ds.length <= 1000 then .ok (.tup ds) h else .bad
  | .lst l, r, h => (evs G cl l r h).bind fun ds h => if ds.length <= 1000 then .ok (.ref h.length) (h ++ [.lst ds]) else .bad
  | .call f l, r, h => (evs G cl l r h).bind fun ds h => (cl f ds h).nx
  | .blt f l, r, h => (evs G cl l r h).bind fun ds h => bltD f ds h
  | .app o e, r, h => (ev G cl o r h).bind fun x h => if isLst x h = true then (ev G cl e r h).bind fun y h => appD x y h else .bad
  | .ins o i e, r, h => (ev G cl o r h).bind fun x h => if isLst x h = true then (ev G cl i r h).bind fun y h => (ev G cl e r h).bind fun z h => insD x y z h else .bad
  | .mxd mx l d, r, h => (ev G cl l r h).bind fun x h => (ev G cl d r h).bind fun y h => bestD mx x y h
  | .lrg e, r, h => (ev G cl e r h).bind fun x h => lrgD x h
  | .disp ks vs, r, h => (evs G cl vs r (h ++ [.dct []])).bind fun ds h' => dispD ks ds h.length h'
  | .dnw, _, h => .ok (.ref h.length) (h ++ [.dct []])
  | .slU a b, r, h => (ev G cl a r h).bind fun x h => (ev G cl b r h).bind fun y h => slUD x y h
  | .slL a b, r, h => (ev G cl a r h).bind fun x h => (ev G cl b r h).bind fun y h => slLD x y h
  | .att o cn f, r, h => (ev G cl o r h).bind fun x h => attD cn x f h
  | .new cn f l, r, h => (evs G cl l r h).bind fun ds h => (newD cn (cl f) ds h).nx
  | .slA a b, r, h => (ev G cl a r h).bind fun x h => (ev G cl b r h).bind fun y h => slAD x y h
  | .slZ a b, r, h => (ev G cl a r h).bind fun x h => (ev G cl b r h).bind fun y h => slZD x y h
  | .slT a b, r, h => (ev G cl a r h).bind fun x h => (ev G cl b r h).bind fun y h => slTD x y h
  | .mth o cn m f l, r, h => (ev G cl o r h).bind fun x h => if mthOk x cn m h = true then (evs G cl l r h).bind fun ds h => (cl f (x :: ds) h).nx else .bad
  | .chn op op' a b c, r, h => (ev G cl a r h).bind fun x h => (ev G cl b r h).bind fun y h => (cmpD op x y h).bind fun p h => match p with
    | .bl true => (ev G cl c r h).bind fun z h => cmpD op' y z h
    | .bl false => .ok (.bl false) h
    | _ => .bad
  | .rev o, r, h => (ev G cl o r h).bind fun x h => revD x h
  | .dcT t i k v N cap, r, h => (ev G cl i r h).bind fun x h => dtL t (ev G cl k) (ev G cl v) x (blockE N cap r) h
  | .dnt, _, h => .ok (.ref h.length) (h ++ [.dtt []])
  | .get2 o k d, r, h => (ev G cl o r h).bind fun x h => if (dctAt h x).isSome = true then (ev G cl k r h).bind fun y h => (ev G cl d r h).bind fun z h => get2D x y z h else .bad
  | .join s e, r, h => (ev G cl e r h).bind fun x h => joinD s x h
  | .fst l, r, h => (evs G cl l r h).bind fun ds h => fstD ds h
  | .fmt a, r, h => (ev G cl a r h).bind fun x h => fmtD x h
  | .sof a, r, h => (ev G cl a r h).bind fun x h => fmtD x h
  | .itx a, r, h => (ev G cl a r h).bind fun x h => itxD x h
  | .spl o c, r, h => (ev G cl o r h).bind fun x h => splD c x h
  | .stw o c, r, h => (ev G cl o r h).bind fun x h => stwD c x h
  | .rep a b, r, h => (ev G cl a r h).bind fun x h => (ev G cl b r h).bind fun y h => repD x y h
  | .dcomp t1 i1 t2 i2 k v N cap, r, h => (ev G cl i1 r h).bind fun x h => dcL t1 (ev G cl i2) t2 (ev G cl k) (ev G cl v) x (blockE N cap r) h
  | .comp t k it cs e N cap, r, h => (evs G cl it r h).bind fun xs h => (compL t (evt G cl cs) (ev G cl e) h.length k xs h (blockE N cap r) (h ++ [.lst []])).bind fun _ h' => .ok (.ref h.length) h'
noncomputable def evt (G : Gs) (cl : Cl) : Es -> Ev -> Hh -> Rs Bool
  | .nil, _, h => .ok true h
  | .cons c l, r, h => (ev G cl c r h).bind fun x h => match truD x h with
    | some true => evt G cl l r h
    | some false => .ok false h
    | none => .bad
noncomputable def evs (G : Gs) (cl : Cl) : Es -> Ev -> Hh -> Rs (List D)
  | .nil, _, h => .ok [] h
  | .cons e l, r, h => (ev G cl e r h).bind fun d h => (evs G cl l r h).bind fun ds h => .ok (d :: ds) h
end
def visB (sc : Scope) (x : Str) : Bool := match sc.names.lookup x with
  | some .local => true
  | some .cell => true
  | some .free => true
  | _ => false
def locB (sc : Scope) (x : Str) : Bool := match sc.names.lookup x with
  | some .local => true
  | some .cell => true
  | _ => false
def glB (sc : Scope) (x : Str) : Bool := match sc.names.lookup x with
  | some .globalImplicit => true
  | _ => false
def noDbg (x : Str) : Bool := !(x == ("__debug__" : Str)) && !(x == ("__classdict__" : Str)) && !(x == ("__name__" : Str))
def Bop.op : Bop -> Operator
  | .add => .Add | .sub => .Sub | .mul => .Mult | .fdiv => .FloorDiv | .mod => .Mod | .pow => .Pow
def Cop.op : Cop -> CmpOp
  | .lt => .Lt | .le => .LtE | .gt => .Gt | .ge => .GtE | .eq => .Eq | .ne => .NotEq | .is => .Is | .isnot => .IsNot | .inn => .In | .notin => .NotIn
def Blt.nm : Blt -> Str
  | .len => "len" | .isinst => "isinstance" | .int => "int" | .list => "list" | .sorted => "sorted" | .all => "all" | .tup => "tuple" | .zip => "zip"
def noSet : PySem.Expr -> Bool
  | .Set _ _ _ => false
  | _ => true
def noStar : PySem.Expr -> Bool
  | .Starred _ _ => false
  | _ => true
def relab (scope sc : Scope) : Scope := { scope with names := scope.names.map fun (n, k) => if (k == .free && sc.kind == .function && sc.names.lookup n == some .cell) then (n, .cell) else (n, k) }
def chkNs' (N : List Str) (sc : Scope) : List Nat -> List PySem.Expr -> Bool
  | [], [] => true
  | i :: is, .Name x _ :: es => N[i]? == some x && locB sc x && chkNs' N sc is es
  | _, _ => false
def chkT' (N : List Str) (sc : Scope) : Tg -> PySem.Expr -> Bool
  | .nm i, .Name x _ => N[i]? == some x && locB sc x
  | .tp l, .Tuple es _ _ => chkNs' N sc l es
  | .tn i j k, .Tuple [.Tuple [.Name x _, .Name y _] _ _, .Name z _] _ _ => N[i]? == some x && locB sc x && (N[j]? == some y && locB sc y) && (N[k]? == some z && locB sc z)
  | _, _ => false
def nodupB : List Str -> Bool
  | [] => true
  | x :: l => !l.contains x && nodupB l
def scOk (scope sc : Scope) : Bool := scope.kind == .function && sc.kind == .function && nodupB (scope.names.map (·.1)) && scope.names.all fun p => (!(p.2 == .local) || scope.names.lookup p.1 == some .local) && (!(p.2 == .free) || sc.names.lookup p.1 == some .cell)
def capOk (N N' : List Str) (cap : List Nat) (scope : Scope) : Bool := decide (cap.length <= N'.length) && (N'.drop (N'.length - cap.length)).map some == cap.map (fun (i : Nat) => N[i]?) && (N'.drop (N'.length - cap.length)).all fun x => scope.names.lookup x == some .free
end Ng
end
section
namespace Ng
open PySem PySem.Spec PyProof.Rows L2
section
variable {prog : Program} {w : World} {A : Around} {E : Value -> Shared -> Prop} {s : Shared} {it d : Addr} {i n ep : Nat} {q1 q2 : Value} {od : Obj} {es : Array DictEntry}
end
theorem ent_same (P P' : Program) (w w' : World) : entryOfKey (tupleKind (intKind P w)) = entryOfKey (tupleKind (intKind P' w')) := rfl
theorem itemsI {P : Program} {w : World} : ∀ {ks : List Int} {us : List Value}, Vals (ks.map V.int) us -> ItemsAre (intKind P w) ks us
  | [], _, .nil => .nil
  | k :: ks, _, .cons h t => by
    obtain ⟨tk, rfl⟩ := h
    exact .cons (by show Value.isInt k (.int k tk) = true; simp [Value.isInt]) (itemsI t)
section
variable {X : Cx} {pins : List (Addr × Obj)} {σ : Sg} {H : Hp} {s : Shared}
theorem keyI (I : Inv X pins σ H s) {b : Addr} {k : List Int} (h : SqT X.K H b (k.map V.int)) : (tupleKind (intKind X.prog X.w)).is s.heap k b := by
  obtain ⟨its, p, t, _⟩ := I.tuple h
  obtain ⟨o, h1, h2, n, h3⟩ := t
  exact ⟨o, its.toArray, n, h1, h2, h3, by simpa using itemsI p⟩
theorem atKey_any {xs : List (List Int × Addr × Value)} {k : List Int} : (atKey xs k).isSome = xs.any fun x => decide (x.1 = k) := by
  induction xs with
  | nil => rfl
  | cons x xs ih =>
    by_cases e : x.1 = k
    · simp [atKey, List.find?_cons, e]
    · have : atKey (x :: xs) k = atKey xs k := by simp [atKey, List.find?_cons, e]
      rw [this, ih]; simp [e]
theorem any_map_eq {α : Type} {l : List (List Int × α)} {xs : List (List Int × Addr × Value)} {k : List Int} (h : l.map (·.1) = xs.map (·.1)) : l.any (fun kv => decide (kv.1 = k)) = xs.any fun x => decide (x.1 = k) := by
  have a : l.any (fun kv => decide (kv.1 = k)) = (l.map (·.1)).any fun y => decide (y = k) := by rw [List.any_map]; rfl
  have b : (xs.any fun x => decide (x.1 = k)) = (xs.map (·.1)).any fun y => decide (y = k) := by rw [List.any_map]; rfl
  rw [a, b, h]
theorem valT_any (k : List Int) : ∀ l : List (List Int × D), (valT l k).isSome = l.any fun kv => decide (kv.1 = k)
  | [] => rfl
  | p :: l => by
    have ih := valT_any k l
    unfold valT at ih ⊢
    rw [List.find?_cons, List.any_cons]
    by_cases e : p.1 = k
    · rw [decide_eq_true e]; rfl
    · rw [decide_eq_false e]; simpa using ih
theorem valT_rel {K : PySem.W.Frag} {m : List Addr} {k : List Int} {d : D} : ∀ {ds : List (List Int × D)} {xs : List (List Int × Addr × Value)} {us : List V}, ds.map (·.1) = xs.map (·.1) -> RDs K m H (ds.map (·.2)) us -> Vals us (xs.map (·.2.2)) -> valT ds k = some d -> ∃ v p, RD K m H d v /\ atKey xs k = some p /\ RelV v p.2
  | [], _, _, _, _, _, e => by cases e
  | _ :: _, [], _, h, _, _, _ => by cases h
  | q :: ds, x :: xs, us, h, r, p, e => by
    cases r with
    | cons r1 r =>
      cases p with
      | cons p1 p =>
        obtain ⟨h1, h2⟩ := List.cons.inj (show q.1 :: ds.map (·.1) = x.1 :: xs.map (·.1) from h)
        unfold valT at e
        rw [List.find?_cons] at e
        by_cases z : q.1 = k
        · rw [decide_eq_true z] at e
          have e' : q.2 = d := Option.some.inj e
          subst e'
          have z' : x.1 = k := by rw [<- h1]; exact z
          exact ⟨_, x.2, r1, by simp [atKey, List.find?_cons, z'], p1⟩
        · rw [decide_eq_false z] at e
          have z' : ¬ x.1 = k := by rw [<- h1]; exact z
          have : atKey (x :: xs) k = atKey xs k := by simp [atKey, List.find?_cons, z']
          rw [this]
          exact valT_rel h2 r p e
theorem intsK_rel {K : PySem.W.Frag} {m : List Addr} : ∀ {ds : List D} {vs : List V} {l : List Int}, RDs K m H ds vs -> intsK ds = some l -> vs = l.map V.int
  | _, _, _, .nil, e => by cases e; rfl
  | _, _, _, .cons r t, e => by
    cases r <;> first | (cases e; done) | skip
    simp only [intsK, Option.map_eq_some_iff] at e
    obtain ⟨l', e1, rfl⟩ := e
    rw [intsK_rel t e1]
    rfl
theorem dtf_at (I : Inv X pins σ H s) {m : List Addr} {h : Hh} (w : Wd X.K m h H) {x : D} {v : V} {l : List (List Int × D)} (r : RD X.K m H x v) (e : dtfAt h x = some l) :
    ∃ n a xs us o es ep, x = .ref n /\ v = .ref a /\ h[n]? = some (.dtf l) /\ m[n]? = some a /\ H a = some (.frz o (.own a)) /\ Dfo a xs o es ep /\ s.heap.get? a = some o /\ l.map (·.1) = xs.map (·.1) /\ (∀ x ∈ xs, SqT X.K H x.2.1 (x.1.map V.int)) /\ RDs X.K m H (l.map (·.2)) us /\ Vals us (xs.map (·.2.2)) /\ s.heap.DictOfH (tupleKind (intKind X.prog X.w)) a xs := by
  cases r <;> first | (cases e; done) | skip
  rename_i n a ha
  simp only [dtfAt] at e
  split at e
  · rename_i l' el
    cases e
    obtain ⟨xs, us, o, es, ep, q1, q2, q3, q4, q5, q6⟩ : RO X.K m H a (.dtf l) := w.ob n _ a el ha
    have go : s.heap.get? a = some o := (show ObjOk X.prog X.w H s.heap a (.frz o (.own a)) from I.hok a _ q1).1
    obtain ⟨d1, d2, d3, d4, ⟨P, w', d5⟩, d6⟩ := id q2
    exact ⟨n, a, xs, us, o, es, ep, rfl, rfl, el, ha, q1, q2, go, q3, q4, q5, q6, o, es, ep, go, d3, d4, d5.trans (by rw [ent_same P X.prog w' X.w]), fun x hx => keyI I (q4 x hx), d6⟩
  · cases e
theorem meets_dlen {prog : Program} {w : World} (d : Addr) (hd : (d == sysModules) = false) : MeetsIn prog w (Builtin.«dict.__len__» ⟨[.ref d], []⟩) (fun _ R s => ∃ o es ep, s.heap.get? d = some o /\ o.data = .dict es ep /\ R (.ok (.ret (.int es.size s.toks))) { s with toks := s.toks + 1 }) :=
  .of_wp fun A R s ⟨o, es, ep, ho, hdat, h⟩ => by
    show wpAny _ _ (dictSize d >>= _) _ _ s
    unfold dictSize
    refine wpAny_bind (wpAny_bind (wpAny_dictEntries ho hdat (wpAny_pure ?_)))
    show wpAny _ _ (Builtin.Dict.pendingCount d >>= _) _ _ s
    refine wpAny_bind (wpAny_pendingCount_other hd (wpAny_ret_mkInt ?_))
    rw [Nat.add_zero]; exact h
theorem call_dlen {prog : Program} {w : World} {A : Around} {E : Value -> Shared -> Prop} {s : Shared} {d : Addr} {o : Obj} {es : Array DictEntry} {ep : Nat} {Q : Value -> Shared -> Prop} (hd : (d == sysModules) = false) (ho : s.heap.get? d = some o) (hx : o.ExactDict) (hdat : o.data = .dict es ep) (hfit : (es.size : Int) < 2 ^ 63)
    (h : Q (.int es.size (s.toks + 1)) { s with toks := s.toks + 1 + 1 }) : wpAny (model prog w) A (call (.builtin "len") [.ref d]) Q E s := by
  have ty : s.TypeIs (.ref d) "dict" := ⟨o, ho, hx.1⟩
  refine Calls.call_function_entry kind_len plain_len entry_len (args_len1 _) ?_
  unfold Builtin.«len»
  refine wpAny_bind (m := oneArg "len" _) (wpAny_pure ?_)
  refine wpAny_bind (m := callSpecial? (.ref d) (Str.ofString "__len__")) (wpAny_callSpecial?_slot (name := Str.ofString "__len__") ty F.slot_dict_len (call_meetsIn F.slot_dict_len ty F.entry_dict_len (F.args_dict_len_1 _) (meets_dlen d hd) ⟨o, es, ep, ho, hdat, ?_⟩))
  show wpAny _ _ _ _ _ { s with toks := s.toks + 1 }
  refine wpAny_bind (wpAny_holding (wpAny_pure (wpAny_bind (wpAny_letGo ?_))))
  show wpAny _ _ (if ((es.size : Nat) : Int) < 0 then _ else _) _ _ _
  rw [if_neg (by omega)]
  show wpAny _ _ (if ((es.size : Nat) : Int) ≥ 2 ^ 63 then _ else _) _ _ _
  rw [if_neg (by omega)]
  exact wpAny_bind (wpAny_mkInt (wpAny_pure ⟨_, rfl, h⟩))
end
inductive CT (A : Around) (s : Shared) (x : Value) : List Value -> Bool -> Prop where
  | nil : CT A s x [] false
  | hit {y : Value} {ys : List Value} (h : SeqAt.EqAt A s y x true) : CT A s x (y :: ys) true
  | mis {y : Value} {ys : List Value} {b : Bool} (h : SeqAt.EqAt A s y x false) (r : CT A s x ys b) : CT A s x (y :: ys) b
section
open PySem.SeqAt
open PySem.AutoSeq1 (wpAny_loadPart')
open PySem.MeetsSeq PySem.MeetsSeq2 PySem.MeetsSeq3
theorem ct_loop (l : Addr) (items : Array Value) (n : Nat) (dd : Option Addr) (sl : Array (Option Value)) (x : Value) {b : Bool} : ∀ (m i : Nat), items.size - i = m -> Meets (Builtin.«list.__contains__.loop» ⟨[.ref l, x, rawInt i], []⟩)
    (fun A R s => s.heap.get? l = some { cls := .type "list", dict := dd, data := .seq items n, slots := sl } /\ CT A.in1 s x (items.toList.drop i) b /\ R (.ok (.ret (.bool b))) s) := by
  intro m
  induction m with
  | zero =>
    intro i hk prog w A R s h
    obtain ⟨hp, g, d, tk, os⟩ := s; obtain ⟨hl, hf, h⟩ := h
    wp_walk using wpAny_loadPart' hl
    have hi : items[((i : Nat) : Int).toNat]? = none := by simp; omega
    have hd : items.toList.drop i = [] := by simp; omega
    rw [hd] at hf
    cases hf
    rw [hi]
    wp_walk
    exact h
  | succ m ih =>
    intro i hk prog w A R s h
    obtain ⟨hp, g, d, tk, os⟩ := s; obtain ⟨hl, hf, h⟩ := h
    have lt : i < items.size := by omega
    have d1 : items.toList.drop i = items[i] :: items.toList.drop (i + 1) := by rw [List.drop_eq_getElem_cons (by simpa using lt)]; simp
    have hi : items[((i : Nat) : Int).toNat]? = some items[i] := by simp [lt]
    have hc : ((i : Int) + 1) = ((i + 1 : Nat) : Int) := by push_cast; rfl
    wp_walk using wpAny_loadPart' hl
    rw [hi]
    rw [d1] at hf
    cases hf with
    | hit he =>
      refine wpAny_bind (he prog w _ _ ?_)
      wp_walk
      exact h
    | mis he r =>
      refine wpAny_bind (he prog w _ _ ?_)
      wp_walk
      rw [hc]
      exact ⟨plainId_quiet plain_contains_loop _, codeAny_builtin entry_contains_loop (by
        rw [Around.under_plainId plain_contains_loop _]
        exact ih (i + 1) (by omega) prog w A R _ ⟨hl, r, h⟩)⟩
theorem ct_list (l : Addr) (items : Array Value) (n : Nat) (dd : Option Addr) (sl : Array (Option Value)) (x : Value) {b : Bool} : Meets (Builtin.«list.__contains__» ⟨[.ref l, x], []⟩)
    (fun A R s => s.heap.get? l = some { cls := .type "list", dict := dd, data := .seq items n, slots := sl } /\ CT A.in1 s x items.toList b /\ R (.ok (.ret (.bool b))) s) := by
  intro prog w A R s h
  obtain ⟨hp, g, d, tk, os⟩ := s; obtain ⟨hl, hf, h⟩ := h
  wp_walk using wpAny_loadPart' hl
  exact ⟨plainId_quiet plain_contains_loop _, codeAny_builtin entry_contains_loop (by
    rw [Around.under_plainId plain_contains_loop _]
    exact ct_loop l items n dd sl x _ 0 rfl prog w A R _ ⟨hl, by simpa using hf, h⟩)⟩
end
end Ng
end
section
namespace Ng
open PySem PySem.Spec PyProof.Rows L2
def TDE (K : PySem.W.Frag) (f : Ev -> Hh -> Rs D) : TE := fun s H Q => ∃ m r h d h', Wd K m h H /\ RSt K m H r s /\ f r h = .ok d h' /\
  ∀ m' v H', Gr K m H m' H' -> Wd K m' h' H' -> RD K m' H' d v -> Q v H'
def TDT (K : PySem.W.Frag) (f : Ev -> Hh -> Rs D) : TT := fun s H Q => ∃ m r h d h' b, Wd K m h H /\ RSt K m H r s /\ f r h = .ok d h' /\ truD d h' = some b /\
  ∀ m' H', Gr K m H m' H' -> Wd K m' h' H' -> Q b H'
def TDA (K : PySem.W.Frag) (f : Ev -> Hh -> Rs (List D)) : TA := fun s H Q => ∃ m r h ds h', Wd K m h H /\ RSt K m H r s /\ f r h = .ok ds h' /\
  ∀ m' vs H', Gr K m H m' H' -> Wd K m' h' H' -> RDs K m' H' ds vs -> Q vs H'
def rD (K : PySem.W.Frag) (k : D -> D -> Hh -> Rs D) : R2 := fun x y H Q => ∃ m h dx dy d h', Wd K m h H /\ RD K m H dx x /\ RD K m H dy y /\ k dx dy h = .ok d h' /\
  ∀ m' v H', Gr K m H m' H' -> Wd K m' h' H' -> RD K m' H' d v -> Q v H'
def rDc (K : PySem.W.Frag) (k : List D -> Hh -> Rs D) : List V -> Hp -> VK -> Prop := fun xs H Q => ∃ m h ds d h', Wd K m h H /\ RDs K m H ds xs /\ k ds h = .ok d h' /\
  ∀ m' v H', Gr K m H m' H' -> Wd K m' h' H' -> RD K m' H' d v -> Q v H'
theorem _root_.L2.PE.wk {X : Cx} {e : PySem.Expr} {t t' : TE} (h : PE X e t) (i : ∀ s H Q, t' s H Q -> t s H Q) : PE X e t' := fun pins s σ H Q I q => h pins s σ H Q I (i _ _ _ q)
theorem _root_.L2.PT.wk {X : Cx} {e : PySem.Expr} {t t' : TT} (h : PT X e t) (i : ∀ s H Q, t' s H Q -> t s H Q) : PT X e t' := fun pins s σ H Q I q => h pins s σ H Q I (i _ _ _ q)
theorem _root_.L2.PA.wk {X : Cx} {e : List PySem.Expr} {t t' : TA} (h : PA X e t) (i : ∀ s H Q, t' s H Q -> t s H Q) : PA X e t' := fun pos pins s σ H Q I q => h pos pins s σ H Q I (i _ _ _ q)
theorem TDE.two {K : PySem.W.Frag} {fa fb : Ev -> Hh -> Rs D} {k : D -> D -> Hh -> Rs D} {s : Sg} {H : Hp} {R : V -> V -> Hp -> Prop} {m : List Addr} {r : Ev} {h : Hh} {d : D} {h' : Hh} (w : Wd K m h H) (st : RSt K m H r s)
    (e : ((fa r h).bind fun x h1 => (fb r h1).bind fun y h2 => k x y h2) = .ok d h')
    (c : ∀ m2 H2 h2 dx dy x y, Gr K m H m2 H2 -> Wd K m2 h2 H2 -> RD K m2 H2 dx x -> RD K m2 H2 dy y -> k dx dy h2 = .ok d h' -> R x y H2) :
    TDE K fa s H fun x H1 => TDE K fb s H1 fun y H2 => R x y H2 := by
  obtain ⟨dx, h1, e1, e⟩ := Rs.bind_ok e
  obtain ⟨dy, h2, e2, e⟩ := Rs.bind_ok e
  exact ⟨m, r, h, dx, h1, w, st, e1, fun m1 x H1 g1 w1 rx => ⟨m1, r, h1, dy, h2, w1, st.mono g1, e2, fun m2 y H2 g2 w2 ry => c m2 H2 h2 dx dy x y (g1.trans g2) w2 (rx.mono g2) ry e⟩⟩
theorem TDE.op {K : PySem.W.Frag} {fa fb f : Ev -> Hh -> Rs D} {k : D -> D -> Hh -> Rs D} (hf : ∀ r h, f r h = (fa r h).bind fun x h1 => (fb r h1).bind fun y h2 => k x y h2) (s : Sg) (H : Hp) (Q : VK) (q : TDE K f s H Q) : tOp (rD K k) (TDE K fa) (TDE K fb) s H Q := by
  obtain ⟨m, r, h, d, h', w, st, e, c⟩ := q
  rw [hf] at e
  exact TDE.two w st e fun m2 H2 h2 dx dy x y g w2 rx ry e => ⟨m2, h2, dx, dy, d, h', w2, rx, ry, e, fun m' v H' g' => c m' v H' (g.trans g')⟩
structure XOk (X : Cx) (N : List Str) (sc : Scope) : Prop where
  n : X.N = N
  s : X.env.scope = sc
  calm : X.calm = true
  nd : X.N.Nodup
  room : ∃ k, Room k X.A
  rng : X.mg "range" = none
  po : PassesOwn (model X.prog X.w) X.A X.env X.xe
def spD (K : PySem.W.Frag) (ca : Nat -> Addr) (f : List D -> Hh -> Rs D) (n : Nat) : Sp := fun vs H Q E => vs.length = n /\ ∃ m h ds, Wd K m h H /\ RDs K m H ds vs /\ (match f ds h with
  | .ok d h' => ∀ m' v H', Gr K m H m' H' -> Wd K m' h' H' -> RD K m' H' d v -> Q v H'
  | .exc c _ h' => ∀ m' H' v, Gr K m H m' H' -> Wd K m' h' H' -> E v (some (ca c)) H'
  | .bad => False)
abbrev bmV : List Value := [.type "ValueError", .type "Exception", .type "BaseException", .type "object"]
structure ExcF (K : PySem.W.Frag) (C : Addr) : Prop where
  own : PySem.W.excIn K C bmV "ValueError.__new__" = true
  kp : PySem.W.keepIn K (.ref C) = true
  val : PySem.W.kitOne K (.ref C) (.type "ValueError") = some true
structure COk (X : Cx) (G : Gs) (ca : Nat -> Addr) (cl : Cl) : Prop where
  att : ∀ p ∈ G.atts, ∃ C, PySem.W.nsIn X.K mainGlobals p.1 = some (some (.ref C)) /\ Cls X.K C /\ NoAttr X.K C p.2
  meth : ∀ p ∈ G.meths, ∃ C fa fd ps k, PySem.W.nsIn X.K mainGlobals p.1 = some (some (.ref C)) /\ Cls X.K C /\ Meth X.K C p.2.1 fa /\ FnOk X.prog X.w X.K X.mg X.base (CX1 X.prog X.w) k fa fd ps (spD X.K ca (cl p.2.2) ps.length) /\ Room k X.A /\ Binds X.K fd ps [] /\ ∀ ds h, cl p.2.2 ds h ≠ .bad -> ds.length = ps.length
  new : ∀ p ∈ G.news, ∃ C fa fd ps k, PySem.W.nsIn X.K mainGlobals p.1 = some (some (.ref C)) /\ X.mg p.1 = some (.ref C) /\ Mk X.K C fa /\ FnOk X.prog X.w X.K X.mg X.base (CX1 X.prog X.w) k fa fd ps (spD X.K ca (cl p.2) ps.length) /\ Room (k + 1) X.A /\ Binds X.K fd ps [] /\ ∀ ds h, cl p.2 ds h ≠ .bad -> ds.length = ps.length
structure GOk (X : Cx) (G : Gs) (ca : Nat -> Addr) (cl : Cl) : Prop where
  fn : ∀ (f : Nat) (x : Str), G.fns[f]? = some x -> ∃ fa fd ps k, FnOk X.prog X.w X.K X.mg X.base (CX1 X.prog X.w) k fa fd ps (spD X.K ca (cl f) ps.length) /\ Room k X.A /\ X.mg x = some (.ref fa) /\ PySem.W.keepIn X.K (.ref fa) = true /\ Binds X.K fd ps [] /\ ∀ ds h, cl f ds h ≠ .bad -> ds.length = ps.length
  cst : ∀ (g : Nat) (x : Str) (d : D), G.csts[g]? = some (x, d) -> ∃ v u, X.mg x = some u /\ RelV v u /\ ∀ m H, RD X.K m H d v
  blt : ∀ f : Blt, X.mg f.nm = none
  ty : ∀ t : Ty, X.mg (Str.ofString t.nm) = none
  exc : ∀ (c : Nat) (x : Str), G.excs[c]? = some x -> X.mg x = some (.ref (ca c)) /\ ExcF X.K (ca c)
  sub : ∀ p ∈ G.sub, PySem.W.exmOne X.K (.ref (ca p.1)) (.ref (ca p.2)) = some true /\ PySem.W.kitOne X.K (.ref (ca p.1)) (.ref (ca p.2)) = some true /\ ExcF X.K (ca p.1)
  nsub : ∀ p ∈ G.nsub, PySem.W.kitOne X.K (.ref (ca p.1)) (.ref (ca p.2)) = some false /\ ExcN X.K (ca p.1)
  verr : X.mg "ValueError" = none
  c : COk X G ca cl
section
variable {X : Cx}
theorem opBin (op : Bop) : OpR X (binaryOp op.op) (rD X.K (binD op)) := by
  intro pins s σ H x y v u Q I rx ry q
  obtain ⟨m, h, dx, dy, d, h', w, r1, r2, e, c⟩ := q
  have fin : ∀ z, RD X.K m H d z -> h = h' -> Q z H := fun z rz eh => by subst eh; exact c m z H Gr.refl w rz
  cases op with
  | add =>
    have k : (∃ i j, dx = .int i /\ dy = .int j) \/ (∃ a b, dx = .str a /\ dy = .str b) \/ (∃ a b, dx = .tup a /\ dy = .tup b) \/ ∃ a b, dx = .ref a /\ dy = .ref b := by
      cases dx <;> first | (cases e; done) | skip
      · exact .inl ⟨_, (by cases dy <;> first | (cases e; done) | exact ⟨_, rfl, rfl⟩)⟩
      · exact .inr (.inl ⟨_, (by cases dy <;> first | (cases e; done) | exact ⟨_, rfl, rfl⟩)⟩)
      · exact .inr (.inr (.inl ⟨_, (by cases dy <;> first | (cases e; done) | exact ⟨_, rfl, rfl⟩)⟩))
      · exact .inr (.inr (.inr ⟨_, (by cases dy <;> first | (cases e; done) | exact ⟨_, rfl, rfl⟩)⟩))
    rcases k with ⟨i, j, rfl, rfl⟩ | ⟨a, b, rfl, rfl⟩ | ⟨a, b, rfl, rfl⟩ | ⟨a, b, rfl, rfl⟩
    · cases r1; cases r2
      cases e
      exact op_add pins s σ H _ _ v u Q I rx ry ⟨_, _, rfl, rfl, fin _ (.int _) rfl⟩
    · cases r1; cases r2
      have e' : (if a.length + b.length <= sizeLine then Rs.ok (D.str (a ++ b)) h else .bad) = .ok d h' := e
      split at e'
      · rename_i hz
        cases e'
        exact op_add_str pins s σ H _ _ v u Q I rx ry ⟨_, _, rfl, rfl, hz, fin _ (.str _) rfl⟩
      · cases e'
    · have e' : (if a.length + b.length <= 1000 /\ 0 < a.length /\ 0 < b.length then Rs.ok (D.tup (a ++ b)) h else .bad) = .ok d h' := e
      split at e'
      · rename_i hz
        cases e'
        cases r1 with
        | tup h1 q1 =>
          cases r2 with
          | tup h2 q2 =>
            have l1 := q1.length
            have l2 := q2.length
            refine op_catT pins s σ H _ _ v u Q I rx ry ⟨_, _, _, _, rfl, rfl, h1, h2, (fun z => by rw [z, List.length_nil] at l1; omega), Nat.le_trans (by omega) (show 1000 <= sizeLine by decide), (fun z => by rw [z, List.length_nil] at l2; omega), fun _ p hp => ?_⟩
            exact c m _ _ (Gr.tupNew hp) (w.keepNew hp) (.tup (.of upd_same) ((q1.append q2).mono (Gr.tupNew hp)))
      · cases e'
    · have e' : (match h[a]?, h[b]? with | some (.lst x), some (.lst y) => (if x.length + y.length <= 1000 then Rs.ok (D.ref h.length) (h ++ [O.lst (x ++ y)]) else .bad) | _, _ => .bad) = .ok d h' := e
      split at e'
      · rename_i la lb ea eb
        split at e'
        · rename_i hz
          cases e'
          cases r1 with
          | ref m1 =>
            cases r2 with
            | ref m2 =>
              obtain ⟨vs, hv, q1⟩ : ∃ vs, H _ = some (.lst vs) /\ RDs X.K m H la vs := w.ob a _ _ ea m1
              obtain ⟨us, hu, q2⟩ : ∃ vs, H _ = some (.lst vs) /\ RDs X.K m H lb vs := w.ob b _ _ eb m2
              have l1 := q1.length
              have l2 := q2.length
              refine op_cat pins s σ H _ _ v u Q I rx ry ⟨_, _, _, _, rfl, rfl, hv, hu, Nat.le_trans (by omega) (show 1000 <= sizeLine by decide), fun p hp => ?_⟩
              obtain ⟨w2, g2⟩ := w.lstNew hp (q1.append q2)
              exact c _ _ _ g2 w2 (.ref (by rw [<- w.len]; simp))
        · cases e'
      · cases e'
  | sub =>
    obtain ⟨i, rfl⟩ : ∃ i, dx = .int i := by cases dx <;> first | exact ⟨_, rfl⟩ | (cases e; done)
    obtain ⟨j, rfl⟩ : ∃ j, dy = .int j := by cases dy <;> first | exact ⟨_, rfl⟩ | (cases e; done)
    cases r1; cases r2
    cases e
    exact op_sub pins s σ H _ _ v u Q I rx ry ⟨_, _, rfl, rfl, fin _ (.int _) rfl⟩
  | mul =>
    obtain ⟨i, rfl⟩ : ∃ i, dx = .int i := by cases dx <;> first | exact ⟨_, rfl⟩ | (cases e; done)
    obtain ⟨j, rfl⟩ : ∃ j, dy = .int j := by cases dy <;> first | exact ⟨_, rfl⟩ | (cases e; done)
    cases r1; cases r2
    have e' : (if (-(2 ^ 64) < i /\ i < 2 ^ 64) \/ (-(2 ^ 64) < j /\ j < 2 ^ 64) then Rs.ok (D.int (i * j)) h else .bad) = .ok d h' := e
    split at e'
    · rename_i hz
      cases e'
      exact op_mul pins s σ H _ _ v u Q I rx ry ⟨_, _, rfl, rfl, hz, fin _ (.int _) rfl⟩
    · cases e'
  | fdiv =>
    obtain ⟨i, rfl⟩ : ∃ i, dx = .int i := by cases dx <;> first | exact ⟨_, rfl⟩ | (cases e; done)
    obtain ⟨j, rfl⟩ : ∃ j, dy = .int j := by cases dy <;> first | exact ⟨_, rfl⟩ | (cases e; done)
    cases r1; cases r2
    have e' : (if 0 < j /\ j < 1073741824 then Rs.ok (D.int (i / j)) h else .bad) = .ok d h' := e
    split at e'
    · rename_i hz
      cases e'
      exact op_fdiv pins s σ H _ _ v u Q I rx ry ⟨_, _, rfl, rfl, hz, fin _ (.int _) rfl⟩
    · cases e'
  | mod =>
    obtain ⟨i, rfl⟩ : ∃ i, dx = .int i := by cases dx <;> first | exact ⟨_, rfl⟩ | (cases e; done)
    obtain ⟨j, rfl⟩ : ∃ j, dy = .int j := by cases dy <;> first | exact ⟨_, rfl⟩ | (cases e; done)
    cases r1; cases r2
    have e' : (if 0 < j then Rs.ok (D.int (i % j)) h else .bad) = .ok d h' := e
    split at e'
    · rename_i hz
      cases e'
      exact op_mod pins s σ H _ _ v u Q I rx ry ⟨_, _, rfl, rfl, hz, fin _ (.int _) rfl⟩
    · cases e'
  | pow =>
    obtain ⟨i, rfl⟩ : ∃ i, dx = .int i := by cases dx <;> first | exact ⟨_, rfl⟩ | (cases e; done)
    obtain ⟨j, rfl⟩ : ∃ j, dy = .int j := by cases dy <;> first | exact ⟨_, rfl⟩ | (cases e; done)
    cases r1; cases r2
    have e' : (if 0 <= j /\ j <= 1000000 /\ i.natAbs < 2 ^ 64 then Rs.ok (D.int (i ^ j.toNat)) h else .bad) = .ok d h' := e
    split at e'
    · rename_i hz
      cases e'
      exact op_pow pins s σ H _ _ v u Q I rx ry ⟨_, _, rfl, rfl, hz, fin _ (.int _) rfl⟩
    · cases e'
theorem eqL_all {f : D -> D -> Option Bool} : ∀ {a b : List D} {k : Bool}, eqL f a b = some k -> ∃ e : Nat -> Bool, (∀ j x y, a[j]? = some x -> b[j]? = some y -> f x y = some (e j)) /\ k = ((List.range (min a.length b.length)).all e && a.length == b.length)
  | [], [], k, h => by
    simp [eqL] at h
    exact ⟨fun _ => true, fun j x y e => by simp at e, by simp [h.symm]⟩
  | [], _ :: _, k, h => by
    simp [eqL] at h
    exact ⟨fun _ => true, fun j x y e => by simp at e, by simp [h.symm]⟩
  | _ :: _, [], k, h => by
    simp [eqL] at h
    exact ⟨fun _ => true, fun j x y _ e => by simp at e, by simp [h.symm]⟩
  | x :: xs, y :: ys, k, h => by
    simp only [eqL] at h
    split at h
    · rename_i a b h1 h2
      obtain ⟨e, p, q⟩ := eqL_all h2
      refine ⟨fun j => match j with
        | 0 => a
        | j + 1 => e j, fun j x' y' e1 e2 => ?_, ?_⟩
      · cases j with
        | zero => simp at e1 e2; subst e1; subst e2; exact h1
        | succ j => exact p j x' y' (by simpa using e1) (by simpa using e2)
      · have h' : (a && b) = k := Option.some.inj h
        rw [<- h', q]
        simp only [List.length_cons, Nat.succ_min_succ, List.range_succ_eq_map, List.all_cons, List.all_map]
        rw [show ((xs.length + 1 == ys.length + 1) : Bool) = (xs.length == ys.length) by simp]
        rw [Bool.and_assoc]
        rfl
    · cases h
theorem eqD_same {pins : List (Addr × Obj)} {σ : Sg} {H : Hp} {s : Shared} {m : List Addr} (I : Inv X pins σ H s) : ∀ (n : Nat) {d d' : D} {v : V} {b : Bool}, RD X.K m H d v -> RD X.K m H d' v -> eqD n d d' = some b -> b = true := by
  intro n
  induction n with
  | zero =>
    intro d d' v b r r' e
    cases r <;> cases r' <;> simp [eqD] at e <;> exact e
  | succ n ih =>
    intro d d' v b r r' e
    cases r <;> cases r' <;> first | (simp [eqD] at e; exact e) | (simp [eqD] at e; done) | skip
    rename_i a ds vs h1 q1 ds' vs' q2 h2
    obtain rfl := I.tuple_inj h1 h2
    have go : ∀ {ds ds' : List D} {vs : List V} {b : Bool}, RDs X.K m H ds vs -> RDs X.K m H ds' vs -> eqL (eqD n) ds ds' = some b -> b = true := by
      intro ds
      induction ds with
      | nil =>
        intro ds' vs b q1 q2 e
        cases q1; cases q2
        simp [eqL] at e; exact e
      | cons x xs ih2 =>
        intro ds' vs b q1 q2 e
        cases q1 with
        | cons p1 t1 =>
          cases q2 with
          | cons p2 t2 =>
            simp only [eqL] at e
            split at e
            · rename_i k1 k2 z1 z2
              have := ih p1 p2 z1
              have := ih2 t1 t2 z2
              subst_vars
              simpa using e.symm
            · cases e
    exact go q1 q2 (by simpa [eqD] using e)
theorem eqAt_D {pins : List (Addr × Obj)} {σ : Sg} {H : Hp} {s : Shared} {m : List Addr} (I : Inv X pins σ H s) : ∀ (n : Nat) {A : Around} {d d' : D} {v v' : V} {u u' : Value} {b : Bool}, A.units + n < cLine -> RD X.K m H d v -> RD X.K m H d' v' -> RelV v u -> RelV v' u' -> eqD n d d' = some b -> SeqAt.EqAt A s u u' b := by
  intro n
  induction n with
  | zero =>
    intro A d d' v v' u u' b hu r r' q q' e
    cases r <;> cases r' <;> first | (simp [eqD] at e; done) | skip
    all_goals simp [eqD] at e
    all_goals subst e
    all_goals first
      | (have h := eqAt_V (A := A) (s := s) q q' rfl rfl; simpa [eqV] using h)
  | succ n ih =>
    intro A d d' v v' u u' b hu r r' q q' e
    cases r <;> cases r' <;> first | (simp [eqD] at e; done) | skip
    all_goals first
      | (simp [eqD] at e; subst e; have h := eqAt_V (A := A) (s := s) q q' rfl rfl; simpa [eqV] using h)
      | skip
    rename_i a ds vs h1 q1 a' ds' vs' h2 q2
    cases q; cases q'
    by_cases ha : a = a'
    · subst ha
      have := eqD_same I (n + 1) (.tup h1 q1) (.tup h2 q2) e
      subst this
      exact SeqAt.EqAt.same _
    · obtain ⟨its, p1, t1, _⟩ := I.tuple h1
      obtain ⟨its', p2, t2, _⟩ := I.tuple h2
      obtain ⟨f, hf, rfl⟩ := eqL_all (show eqL (eqD n) ds ds' = some b from by simpa [eqD] using e)
      have l1 := q1.length
      have l2 := q2.length
      have l3 := p1.length
      have l4 := p2.length
      have key := SeqAt.RcAt.tuples (A := A) (e := f) t1 t2 (by omega) (fun j j1 j2 => by
        have j1' : j < its.length := by simpa using j1
        have j2' : j < its'.length := by simpa using j2
        have e1 : ds[j]? = some ds[j] := List.getElem?_eq_getElem (by omega)
        have e2 : ds'[j]? = some ds'[j] := List.getElem?_eq_getElem (by omega)
        obtain ⟨x, hx, rx⟩ := q1.get e1
        obtain ⟨y, hy, ry⟩ := q2.get e2
        obtain ⟨ux, hux, sx⟩ := p1.get hx
        obtain ⟨uy, huy, sy⟩ := p2.get hy
        have z1 : its.toArray[j] = ux := by
          have := List.getElem?_eq_some_iff.mp hux
          obtain ⟨_, z⟩ := this
          simpa using z
        have z2 : its'.toArray[j] = uy := by
          have := List.getElem?_eq_some_iff.mp huy
          obtain ⟨_, z⟩ := this
          simpa using z
        rw [z1, z2]
        exact ih (A := A.in1) (by show A.units + 1 + n < cLine; omega) rx ry sx sy (hf j _ _ e1 e2))
      refine SeqAt.EqAt.of_refs ha ?_
      have el : its.toArray.size = ds.length := by simp; omega
      have el' : its'.toArray.size = ds'.length := by simp; omega
      rw [el, el'] at key
      exact key
end
end Ng
end
section
namespace Ng
open PySem PySem.Spec PyProof.Rows L2
section
variable {X : Cx}
theorem eqSeq {pins : List (Addr × Obj)} {σ : Sg} {H : Hp} {s : Shared} {m : List Addr} (I : Inv X pins σ H s) {n : Nat} {A : Around} {ds ds' : List D} {vs vs' : List V} {its its' : List Value} (hu : A.units + 1 + n < cLine)
    (q1 : RDs X.K m H ds vs) (q2 : RDs X.K m H ds' vs') (p1 : Vals vs its) (p2 : Vals vs' its') {f : Nat -> Bool} (hf : ∀ j x y, ds[j]? = some x -> ds'[j]? = some y -> eqD n x y = some (f j)) :
    ∀ j (h1 : j < its.toArray.size) (h2 : j < its'.toArray.size), SeqAt.EqAt A.in1 s its.toArray[j] its'.toArray[j] (f j) := fun j j1 j2 => by
  have l1 := q1.length
  have l2 := q2.length
  have l3 := p1.length
  have l4 := p2.length
  have j1' : j < its.length := by simpa using j1
  have j2' : j < its'.length := by simpa using j2
  have e1 : ds[j]? = some ds[j] := List.getElem?_eq_getElem (by omega)
  have e2 : ds'[j]? = some ds'[j] := List.getElem?_eq_getElem (by omega)
  obtain ⟨x, hx, rx⟩ := q1.get e1
  obtain ⟨y, hy, ry⟩ := q2.get e2
  obtain ⟨ux, hux, sx⟩ := p1.get hx
  obtain ⟨uy, huy, sy⟩ := p2.get hy
  have z1 : its.toArray[j] = ux := by
    obtain ⟨_, z⟩ := List.getElem?_eq_some_iff.mp hux
    simpa using z
  have z2 : its'.toArray[j] = uy := by
    obtain ⟨_, z⟩ := List.getElem?_eq_some_iff.mp huy
    simpa using z
  rw [z1, z2]
  exact eqAt_D I n (by show A.units + 1 + n < cLine; omega) rx ry sx sy (hf j _ _ e1 e2)
theorem eq_both {pins : List (Addr × Obj)} {σ : Sg} {H : Hp} {s : Shared} {m : List Addr} {h : Hh} (I : Inv X pins σ H s) (hr : ∃ k, Room k X.A) {x y : V} {v u : Value} {dx dy : D} {b : Bool} (w : Wd X.K m h H) (r1 : RD X.K m H dx x) (r2 : RD X.K m H dy y)
    (rx : RelV x v) (ry : RelV y u) (e : eqH dx dy h = some b) : SeqAt.RcAt X.A s v u b /\ SeqAt.RcNeAt X.A s v u (!b) := by
  obtain ⟨k, hr⟩ := hr
  have hu := hr.units
  cases r1 <;> cases r2 <;> first | (simp [eqH, eqD] at e; done) | skip
  case ref.ref =>
    rename_i i a ha j c hc
    cases rx; cases ry
    simp only [eqH] at e
    split at e
    · rename_i ds ds' e1 e2
      obtain ⟨a', vs, ha', hq, q1⟩ := w.lst e1
      obtain ⟨c', vs', hc', hq', q2⟩ := w.lst e2
      rw [ha] at ha'; cases ha'
      rw [hc] at hc'; cases hc'
      obtain ⟨its, p1, t1, _⟩ := I.list hq
      obtain ⟨its', p2, t2, _⟩ := I.list hq'
      have l1 := q1.length
      have l2 := q2.length
      have l3 := p1.length
      have l4 := p2.length
      split at e
      · rename_i el
        obtain ⟨f, hf, rfl⟩ := eqL_all e
        have hs : its.toArray.size = its'.toArray.size := by simp; omega
        have he := eqSeq (A := X.A) I (n := 20) (by omega) q1 q2 p1 p2 hf
        have el2 : its.toArray.size = ds.length := by simp; omega
        have k1 := SeqAt.RcAt.lists (A := X.A) (e := f) t1.isList t2.isList hs (by omega) he
        have k2 := SeqAt.RcNeAt.lists (A := X.A) (e := f) t1.isList t2.isList hs (by omega) he
        rw [el2] at k1 k2
        rw [show (min ds.length ds'.length) = ds.length by omega, show (ds.length == ds'.length) = true by simp [el], Bool.and_true]
        exact ⟨k1, k2⟩
      · rename_i el
        have eb : false = b := Option.some.inj e
        subst eb
        have hs : (its.toArray.size != its'.toArray.size) = true := by simp; omega
        exact ⟨SeqAt.RcAt.lists_lengths t1.isList t2.isList hs (by omega), SeqAt.RcNeAt.lists_lengths t1.isList t2.isList hs (by omega)⟩
    · cases e
  case tup.tup =>
    rename_i a ds vs h1 q1 a' ds' vs' h2 q2
    cases rx; cases ry
    obtain ⟨its, p1, t1, _⟩ := I.tuple h1
    obtain ⟨its', p2, t2, _⟩ := I.tuple h2
    have l1 := q1.length
    have l2 := q2.length
    have l3 := p1.length
    have l4 := p2.length
    obtain ⟨f, hf, rfl⟩ := eqL_all (show eqL (eqD 19) ds ds' = some b from by simpa [eqH, eqD] using e)
    have he := eqSeq (A := X.A) I (n := 19) (by omega) q1 q2 p1 p2 hf
    have k1 := SeqAt.RcAt.tuples (A := X.A) (e := f) t1 t2 (by omega) he
    have k2 := SeqAt.RcNeAt.tuples (A := X.A) (e := f) t1 t2 (by omega) he
    have el : its.toArray.size = ds.length := by simp; omega
    have el' : its'.toArray.size = ds'.length := by simp; omega
    rw [el, el'] at k1 k2
    exact ⟨k1, k2⟩
  all_goals simp [eqH, eqD] at e
  all_goals subst e
  case non.non => cases rx; cases ry; exact ⟨SeqAt.RcAt.none_none, SeqAt.RcNeAt.none_none⟩
  case non.int => cases rx; obtain ⟨t, rfl⟩ := ry; exact ⟨SeqAt.RcAt.none_int _ _, SeqAt.RcNeAt.none_int _ _⟩
  case non.str => cases rx; obtain ⟨t, rfl⟩ := ry; exact ⟨SeqAt.RcAt.none_str _ _, SeqAt.RcNeAt.none_str _ _⟩
  case int.non => cases ry; obtain ⟨t, rfl⟩ := rx; exact ⟨SeqAt.RcAt.int_none _ _, SeqAt.RcNeAt.int_none _ _⟩
  case str.non => cases ry; obtain ⟨t, rfl⟩ := rx; exact ⟨SeqAt.RcAt.str_none _ _, SeqAt.RcNeAt.str_none _ _⟩
  case bl.bl => cases rx; cases ry; exact ⟨SeqAt.RcAt.bool_bool _ _, SeqAt.RcNeAt.bool_bool _ _⟩
  case int.int => obtain ⟨t, rfl⟩ := rx; obtain ⟨t', rfl⟩ := ry; exact ⟨SeqAt.RcAt.int_int _ _ _ _, SeqAt.RcNeAt.int_int _ _ _ _⟩
  case int.str => obtain ⟨t, rfl⟩ := rx; obtain ⟨t', rfl⟩ := ry; exact ⟨SeqAt.RcAt.int_str _ _ _ _, SeqAt.RcNeAt.int_str _ _ _ _⟩
  case str.int => obtain ⟨t, rfl⟩ := rx; obtain ⟨t', rfl⟩ := ry; exact ⟨SeqAt.RcAt.str_int _ _ _ _, SeqAt.RcNeAt.str_int _ _ _ _⟩
  case str.str => obtain ⟨t, rfl⟩ := rx; obtain ⟨t', rfl⟩ := ry; exact ⟨SeqAt.RcAt.str_str _ _ _ _, SeqAt.RcNeAt.str_str _ _ _ _⟩
theorem RD.flat {K : PySem.W.Frag} {m : List Addr} {H : Hp} {d : D} {v : V} (r : RD K m H d v) (f : flat d = true) : flatV v = true := by
  cases r <;> first | rfl | (cases f; done)
theorem RD.eqF {K : PySem.W.Frag} {m : List Addr} {H : Hp} {d d' : D} {v v' : V} (r : RD K m H d v) (r' : RD K m H d' v') (f : Ng.flat d = true) (f' : Ng.flat d' = true) : eqV v v' = Ng.eqF d d' := by
  cases r <;> first | (cases f; done) | skip
  all_goals cases r' <;> first | (cases f'; done) | rfl
theorem RDs.flat {K : PySem.W.Frag} {m : List Addr} {H : Hp} : ∀ {ds : List D} {vs : List V}, RDs K m H ds vs -> ds.all Ng.flat = true -> vs.all flatV = true
  | _, _, .nil, _ => rfl
  | _, _, .cons r t, f => by
    rw [List.all_cons, Bool.and_eq_true] at f
    rw [List.all_cons, r.flat f.1, RDs.flat t f.2]
    rfl
theorem RDs.anyF {K : PySem.W.Frag} {m : List Addr} {H : Hp} {x : D} {v : V} (rx : RD K m H x v) (fx : Ng.flat x = true) : ∀ {ds : List D} {vs : List V}, RDs K m H ds vs -> ds.all Ng.flat = true -> inV v vs = ds.any fun y => Ng.eqF y x
  | _, _, .nil, _ => rfl
  | _, _, .cons r t, f => by
    rw [List.all_cons, Bool.and_eq_true] at f
    have ih := RDs.anyF rx fx t f.2
    unfold inV at ih ⊢
    rw [List.any_cons, List.any_cons, ih, r.eqF rx f.1 fx]
theorem seq_of {m : List Addr} {h : Hh} {H : Hp} {K : PySem.W.Frag} (w : Wd K m h H) {d : D} {v : V} {l : List D} (r : RD K m H d v) (e : seqD d h = some l) : ∃ p vs, v = .ref p /\ (SqL K H p vs \/ SqT K H p vs) /\ RDs K m H l vs := by
  cases r <;> first | (simp [seqD] at e; done) | skip
  · rename_i a ds vs h1 q
    have e' : ds = l := by simpa [seqD] using e
    subst e'
    exact ⟨a, vs, rfl, .inr h1, q⟩
  · rename_i n a ha
    obtain ⟨a', vs, ha', hq, q⟩ := w.lst (show lstAt h n = some l from e)
    rw [ha] at ha'; cases ha'
    exact ⟨a, vs, rfl, .inl hq, q⟩
theorem valD_rel {K : PySem.W.Frag} {m : List Addr} {H : Hp} {k : Key} {d : D} : ∀ {ds : List (Key × D)} {us : List (Key × V)}, ds.map (·.1) = us.map (·.1) -> RDs K m H (ds.map (·.2)) (us.map (·.2)) -> valD ds k = some d -> ∃ v, valV us k = some v /\ RD K m H d v
  | [], _, _, _, e => by simp [valD] at e
  | p :: ds, [], hk, _, _ => by simp at hk
  | p :: ds, q :: us, hk, r, e => by
    simp only [List.map_cons, List.cons.injEq] at hk
    cases r with
    | cons r1 r2 =>
      unfold valD at e
      unfold valV
      rw [List.find?_cons] at e ⊢
      rw [<- hk.1]
      by_cases z : p.1 = k
      · rw [decide_eq_true z] at e ⊢
        simp only at e ⊢
        cases e
        exact ⟨q.2, rfl, r1⟩
      · rw [decide_eq_false z] at e ⊢
        exact valD_rel hk.2 r2 e
theorem keyD_rel {K : PySem.W.Frag} {m : List Addr} {H : Hp} {d : D} {v : V} {k : Key} (r : RD K m H d v) (e : keyD d = some k) : v = kV k := by
  cases r <;> first | (cases e; done) | (cases e; rfl)
theorem dctAt_rel {K : PySem.W.Frag} {m : List Addr} {h : Hh} {H : Hp} {x : D} {v : V} {l : List (Key × D)} (w : Wd K m h H) (r : RD K m H x v) (e : dctAt h x = some l) : ∃ n a us, x = .ref n /\ v = .ref a /\ h[n]? = some (.dct l) /\ m[n]? = some a /\ H a = some (.dK us) /\ l.map (·.1) = us.map (·.1) /\ RDs K m H (l.map (·.2)) (us.map (·.2)) := by
  cases r <;> first | (cases e; done) | skip
  rename_i n a ha
  simp only [dctAt] at e
  split at e
  · rename_i l' el
    cases e
    obtain ⟨us, q1, q2, q3⟩ := w.ob n _ a el ha
    exact ⟨n, a, us, rfl, rfl, el, ha, q1, q2, q3⟩
  · cases e
theorem valD_none {K : PySem.W.Frag} {k : Key} : ∀ {ds : List (Key × D)} {us : List (Key × V)}, ds.map (·.1) = us.map (·.1) -> valD ds k = none -> valV us k = none
  | [], [], _, _ => rfl
  | [], q :: us, hk, _ => by simp at hk
  | p :: ds, [], hk, _ => by simp at hk
  | p :: ds, q :: us, hk, e => by
    simp only [List.map_cons, List.cons.injEq] at hk
    unfold valD at e
    unfold valV
    rw [List.find?_cons] at e ⊢
    rw [<- hk.1]
    by_cases z : p.1 = k
    · rw [decide_eq_true z] at e; cases e
    · rw [decide_eq_false z] at e ⊢
      exact valD_none (K := K) hk.2 e
theorem isSome_rel {K : PySem.W.Frag} {m : List Addr} {H : Hp} {k : Key} {ds : List (Key × D)} {us : List (Key × V)} (hk : ds.map (·.1) = us.map (·.1)) (r : RDs K m H (ds.map (·.2)) (us.map (·.2))) : (valV us k).isSome = (valD ds k).isSome := by
  cases e : valD ds k with
  | none => rw [valD_none (K := K) hk e] <;> rfl
  | some d => obtain ⟨v, hv, _⟩ := valD_rel hk r e; rw [hv]; rfl
theorem ct_of {pins : List (Addr × Obj)} {σ : Sg} {H : Hp} {s : Shared} {m : List Addr} (I : Inv X pins σ H s) {A : Around} (hu : A.units + 20 < cLine) {dx : D} {x : V} {v : Value} (rx : RD X.K m H dx x) (sx : RelV x v) : ∀ {ds : List D} {vs : List V} {its : List Value} {b : Bool}, RDs X.K m H ds vs -> Vals vs its -> inT dx ds = some b -> CT A s v its b
  | [], _, _, b, .nil, .nil, e => by cases e; exact .nil
  | y :: ds, _, _, b, .cons r q, .cons p t, e => by
    simp only [inT] at e
    split at e
    · rename_i a c e1 e2
      have e' := Option.some.inj e
      have z := eqAt_D I 20 hu r rx p sx e1
      have ih := ct_of I hu rx sx q t e2
      cases a with
      | true => subst e'; exact .hit z
      | false => rw [Bool.false_or] at e'; subst e'; exact .mis z ih
    · cases e
theorem opCmp (hr : ∃ k, Room k X.A) (op : Cop) : OpR X (compareOp op.op) (rD X.K (cmpD op)) := by
  intro pins s σ H x y v u Q I rx ry q
  obtain ⟨m, h, dx, dy, d, h', w, r1, r2, e, c⟩ := q
  have fin : ∀ z, RD X.K m H d z -> h = h' -> Q z H := fun z rz eh => by subst eh; exact c m z H Gr.refl w rz
  cases op with
  | lt =>
    obtain ⟨i, rfl⟩ : ∃ i, dx = .int i := by cases dx <;> first | exact ⟨_, rfl⟩ | (cases e; done)
    obtain ⟨j, rfl⟩ : ∃ j, dy = .int j := by cases dy <;> first | exact ⟨_, rfl⟩ | (cases e; done)
    cases r1; cases r2
    cases e
    exact op_lt pins s σ H _ _ v u Q I rx ry ⟨_, _, rfl, rfl, fin _ (.bl _) rfl⟩
  | le =>
    obtain ⟨i, rfl⟩ : ∃ i, dx = .int i := by cases dx <;> first | exact ⟨_, rfl⟩ | (cases e; done)
    obtain ⟨j, rfl⟩ : ∃ j, dy = .int j := by cases dy <;> first | exact ⟨_, rfl⟩ | (cases e; done)
    cases r1; cases r2
    cases e
    exact op_le pins s σ H _ _ v u Q I rx ry ⟨_, _, rfl, rfl, fin _ (.bl _) rfl⟩
  | gt =>
    obtain ⟨i, rfl⟩ : ∃ i, dx = .int i := by cases dx <;> first | exact ⟨_, rfl⟩ | (cases e; done)
    obtain ⟨j, rfl⟩ : ∃ j, dy = .int j := by cases dy <;> first | exact ⟨_, rfl⟩ | (cases e; done)
    cases r1; cases r2
    cases e
    exact op_gt pins s σ H _ _ v u Q I rx ry ⟨_, _, rfl, rfl, fin _ (.bl _) rfl⟩
  | ge =>
    obtain ⟨i, rfl⟩ : ∃ i, dx = .int i := by cases dx <;> first | exact ⟨_, rfl⟩ | (cases e; done)
    obtain ⟨j, rfl⟩ : ∃ j, dy = .int j := by cases dy <;> first | exact ⟨_, rfl⟩ | (cases e; done)
    cases r1; cases r2
    cases e
    exact op_ge pins s σ H _ _ v u Q I rx ry ⟨_, _, rfl, rfl, fin _ (.bl _) rfl⟩
  | eq =>
    replace e : (match eqH dx dy h with | some b => Rs.ok (D.bl (b)) h | none => .bad) = .ok d h' := e
    split at e
    · rename_i b eb
      cases e
      exact (eq_both I hr w r1 r2 rx ry eb).1 _ _ _ _ ⟨.bl b, H, I, rfl, fin _ (.bl _) rfl⟩
    · cases e
  | ne =>
    replace e : (match eqH dx dy h with | some b => Rs.ok (D.bl (!b)) h | none => .bad) = .ok d h' := e
    split at e
    · rename_i b eb
      cases e
      exact (eq_both I hr w r1 r2 rx ry eb).2 _ _ _ _ ⟨.bl (!b), H, I, rfl, fin _ (.bl _) rfl⟩
    · cases e
  | is =>
    obtain rfl : dy = .non := by cases dy <;> first | rfl | (cases e; done)
    cases r2
    cases e
    refine op_isN pins s σ H _ _ v u Q I rx ry ⟨rfl, fin _ ?_ rfl⟩
    cases r1 <;> exact .bl _
  | isnot =>
    obtain rfl : dy = .non := by cases dy <;> first | rfl | (cases e; done)
    cases r2
    cases e
    refine op_notN pins s σ H _ _ v u Q I rx ry ⟨rfl, fin _ ?_ rfl⟩
    cases r1 <;> exact .bl _
  | inn =>
    replace e : (match inX dx dy h with | some b => Rs.ok (D.bl b) h | none => match dctAt h dy with | some l => inK dx l false h | none => match seqD dy h with | some l => inD dx l false h | none => .bad) = .ok d h' := e
    split at e
    · rename_i b eb
      cases e
      unfold inX at eb
      split at eb
      · cases eb
        cases r1; cases r2
        exact op_in_str pins s σ H _ _ v u Q I rx ry ⟨_, _, rfl, rfl, fin _ (.bl _) rfl⟩
      · rename_i ks
        split at eb
        · rename_i l el
          obtain ⟨n, a, xs, us, o, es, ep, rfl, rfl, hn, ha, hf, df, go, hk, hks, rv, vv, dd⟩ := dtf_at I w r2 el
          rw [Option.map_eq_some_iff] at eb
          obtain ⟨k, ek, rfl⟩ := eb
          cases r1 with
          | tup hq q =>
            have := intsK_rel q ek
            subst this
            obtain ⟨kk, hr⟩ := hr
            have hun := hr.units
            cases rx; cases ry
            refine wpAny_in_heap (tupleKind_room_in1 (by omega)) (keyI I hq) df.1 dd ⟨.bl _, H, I.tok _, rfl, ?_⟩
            rw [atKey_any, <- any_map_eq hk, <- valT_any]
            exact fin _ (.bl _) rfl
        · cases eb
      · cases eb
    split at e
    · rename_i l el
      obtain ⟨n, a, us, rfl, rfl, hn, ha, hu, hk, rv⟩ := dctAt_rel w r2 el
      unfold inK at e
      split at e
      · rename_i k ek
        cases e
        have := keyD_rel r1 ek
        subst this
        obtain ⟨kk, hr⟩ := hr
        have hun := hr.units
        cases ry
        refine d_in (by omega) I (DGet.k hu) rx fun s3 I3 => ⟨.bl _, H, I3, rfl, ?_⟩
        rw [isSome_rel hk rv]
        exact fin _ (.bl _) rfl
      · cases e
    · split at e
      · rename_i l el
        unfold inD at e
        split at e
        · rename_i hf
          cases e
          obtain ⟨p, vs, rfl, hq, q⟩ := seq_of w r2 el
          refine op_in_seq pins s σ H _ _ v u Q I rx ry ⟨p, vs, rfl, hq, r1.flat hf.1, q.flat hf.2, ?_⟩
          have z := RDs.anyF r1 hf.1 q hf.2
          show Q (.bl (if false = true then !inV x vs else inV x vs)) H
          rw [if_neg (by decide), z]
          exact fin _ (.bl _) rfl
        · cases e
      · cases e
  | notin =>
    replace e : (match dctAt h dy with | some l => inK dx l true h | none => match seqD dy h with | some l => (match inTs dx dy l with | some b => Rs.ok (D.bl (!b)) h | none => inD dx l true h) | none => .bad) = .ok d h' := e
    split at e
    · rename_i l el
      obtain ⟨n, a, us, rfl, rfl, hn, ha, hu, hk, rv⟩ := dctAt_rel w r2 el
      unfold inK at e
      split at e
      · rename_i k ek
        cases e
        have := keyD_rel r1 ek
        subst this
        obtain ⟨kk, hr⟩ := hr
        have hun := hr.units
        cases ry
        refine d_notIn (by omega) I (DGet.k hu) rx fun s3 I3 => ⟨.bl _, H, I3, rfl, ?_⟩
        rw [isSome_rel hk rv]
        exact fin _ (by simpa using RD.bl (!(valD l k).isSome)) rfl
      · cases e
    · split at e
      · rename_i l el
        split at e
        · rename_i b eb
          cases e
          unfold inTs at eb
          split at eb
          · cases r2 with
            | ref hm =>
              obtain ⟨a', vs', hm', hq', q'⟩ := w.lst (show lstAt h _ = some l from el)
              rw [hm] at hm'; cases hm'
              obtain ⟨its, p1, t1, _⟩ := I.list hq'
              obtain ⟨kk, hr⟩ := hr
              have hun := hr.units
              obtain ⟨⟨cls, dd, data, sl⟩, ho, hcl, nn, hd⟩ := t1.isList
              simp only at hcl hd
              subst hcl hd
              cases ry
              refine PySem.SeqRoads2.notIn_meets ⟨_, ho, rfl⟩ F.slot_list_contains F.entry_list_contains (F.args_list_contains_2 _ _) (ct_list _ its.toArray nn dd sl v (b := b)) ⟨ho, ?_, _, rfl, ⟨.bl _, H, I, rfl, fin _ (.bl _) rfl⟩⟩
              simpa using ct_of I (A := X.A.in1) (by show X.A.units + 1 + 20 < cLine; omega) r1 rx q' p1 eb
          · cases eb
        rename_i hnt
        unfold inD at e
        split at e
        · rename_i hf
          cases e
          obtain ⟨p, vs, rfl, hq, q⟩ := seq_of w r2 el
          refine op_notIn_seq pins s σ H _ _ v u Q I rx ry ⟨p, vs, rfl, hq, r1.flat hf.1, q.flat hf.2, ?_⟩
          have z := RDs.anyF r1 hf.1 q hf.2
          show Q (.bl (if true = true then !inV x vs else inV x vs)) H
          rw [if_pos rfl, z]
          exact fin _ (by simpa using RD.bl _) rfl
        · cases e
      · cases e
theorem atI_rel {K : PySem.W.Frag} {m : List Addr} {H : Hp} {ds : List D} {vs : List V} {i : Int} {d : D} (q : RDs K m H ds vs) (e : atI ds i = some d) : ∃ v, atI vs i = some v /\ RD K m H d v := by
  unfold atI at e ⊢
  rw [q.length] at e
  cases z : ixN vs.length i with
  | none => rw [z] at e; cases e
  | some j =>
    rw [z] at e
    obtain ⟨v, h1, h2⟩ := q.get (show ds[j]? = some d from e)
    exact ⟨v, h1, h2⟩
theorem ixSeqS : IxR X (rD X.K ixS) := by
  intro value slice pins s σ H x y v u Q I rx ry q hs
  obtain ⟨m, h, dx, dy, d, h', w, r1, r2, e, c⟩ := q
  unfold ixS at e
  split at e
  · rename_i l i el
    split at e
    · rename_i d' ed
      simp at e
      obtain ⟨rfl, rfl⟩ := e
      obtain ⟨p, vs, rfl, hq, q⟩ := seq_of w r1 el
      obtain ⟨z, hz, rz⟩ := atI_rel q ed
      cases r2
      have qz : Q z H := c m z H Gr.refl w rz
      rcases hq with hq | hq
      · exact ix_list value slice pins s σ H _ _ v u Q I rx ry ⟨p, vs, i, z, rfl, rfl, hq, hz, qz⟩ hs
      · exact ix_tup value slice pins s σ H _ _ v u Q I rx ry ⟨p, vs, i, z, rfl, rfl, hq, hz, qz⟩ hs
    · cases e
  · cases e
theorem ixSeq (hr : ∃ k, Room k X.A) : IxR X (rD X.K ixD) := by
  intro value slice pins s σ H x y v u Q I rx ry q hs
  obtain ⟨m, h, dx, dy, d, h', w, r1, r2, e, c⟩ := q
  unfold ixD at e
  split at e
  · rename_i z
    unfold ixT at e
    split at e <;> first | (cases e; done) | skip
    rename_i i
    split at e <;> first | (cases e; done) | skip
    rename_i hz
    split at e <;> first | (cases e; done) | skip
    rename_i c' ec
    simp at e
    obtain ⟨rfl, rfl⟩ := e
    cases r1; cases r2
    exact ix_str value slice pins s σ H _ _ v u Q I rx ry ⟨z, i, c', rfl, rfl, hz, ec, c m _ H Gr.refl w (.str _)⟩ hs
  split at e
  · rename_i l el
    obtain ⟨n, a, us, rfl, rfl, hn, ha, hu, hk, rv⟩ := dctAt_rel w r1 el
    unfold ixK at e
    split at e
    · rename_i k ek
      split at e
      · rename_i d' ed
        simp at e
        obtain ⟨rfl, rfl⟩ := e
        obtain ⟨z, hz, rz⟩ := valD_rel hk rv ed
        have := keyD_rel r2 ek
        subst this
        obtain ⟨kk, hr⟩ := hr
        have hun := hr.units
        cases rx
        have g : DGet H a (kV k) (some z) := by rw [<- hz]; exact DGet.k hu
        exact tail_any (dict_typeIs I g) PySem.F.slot_dict_getitem.lookup (d_getItem (by omega) I g ry fun w' s3 I3 rw' => ⟨z, H, I3, rw', c m z H Gr.refl w rz⟩) hs
      · cases e
    · cases e
  · split at e
    · rename_i l el
      obtain ⟨n, a, xs, us, o, es, ep, rfl, rfl, hn, ha, hf, df, go, hk, hks, rv, vv, dd⟩ := dtf_at I w r1 el
      unfold ixF at e
      split at e
      · rename_i ks
        split at e
        · rename_i d' ed
          simp at e
          obtain ⟨rfl, rfl⟩ := e
          rw [Option.bind_eq_some_iff] at ed
          obtain ⟨k, ek, ed⟩ := ed
          cases r2 with
          | tup hq q =>
            have := intsK_rel q ek
            subst this
            obtain ⟨kk, hr⟩ := hr
            have hun := hr.units
            cases rx; cases ry
            obtain ⟨z, p, rz, hp, sz⟩ := valT_rel hk rv vv ed
            exact tail_any (T := "dict") ⟨o, go, df.2.2.1.1⟩ PySem.F.slot_dict_getitem.lookup (wpAny_getItem_heap (tupleKind_room_in1 (by omega)) (keyI I hq) dd hp ⟨z, H, I.tok _, sz, c m z H Gr.refl w rz⟩) hs
        · cases e
      · cases e
    · exact ixSeqS value slice pins s σ H x y v u Q I rx ry ⟨m, h, dx, dy, d, h', w, r1, r2, e, c⟩ hs
theorem isEmpty_rel {K : PySem.W.Frag} {m : List Addr} {H : Hp} {ds : List D} {vs : List V} (q : RDs K m H ds vs) : ds.isEmpty = vs.isEmpty := by
  cases q <;> rfl
theorem truRel {K : PySem.W.Frag} {m : List Addr} {h : Hh} {H : Hp} (w : Wd K m h H) {d : D} {v : V} {b : Bool} (r : RD K m H d v) (e : truD d h = some b) : TruV K v H b := by
  cases r with
  | non => exact (Option.some.inj e).symm
  | bl c => exact (Option.some.inj e).symm
  | int i => exact (Option.some.inj e).symm
  | str y =>
    simp only [truD] at e
    split at e
    · rename_i hz
      exact ⟨hz, (Option.some.inj e).symm⟩
    · cases e
  | ty n => cases e
  | tup h1 q =>
    refine .inr (.inl ⟨_, h1, ?_⟩)
    have := (Option.some.inj e).symm
    rw [this, isEmpty_rel q]
  | ref ha =>
    simp only [truD] at e
    split at e
    · rename_i l el
      obtain ⟨a', vs, ha', hq, q⟩ := w.lst el
      rw [ha] at ha'; cases ha'
      refine .inl ⟨_, hq, ?_⟩
      have := (Option.some.inj e).symm
      rw [this, isEmpty_rel q]
    · cases e
end
end Ng
end
section
namespace Ng
open PySem PySem.Spec PyProof.Rows L2
end Ng
end
section
namespace Ng
open PySem PySem.Spec PyProof.Rows L2
theorem listWalk {prog : Program} {w : World} {A : Around} {s : Shared} {a : Addr} {items : Array Value} (hh : A.handled = none) (hl : s.heap.IsList a items) :
    Walks prog w A s.heap.objs.size [s.heap.objs.size, a] [s.heap.objs.size] items.size (fun i v => items[i]? = some v) (fun i h => h.IsListIter s.heap.objs.size a i /\ h.IsList a items) /\
    ((s.heap.push { cls := .type "list_iterator", data := .fields #[.ref a, .int 0 0] }).IsListIter s.heap.objs.size a 0 /\ (s.heap.push { cls := .type "list_iterator", data := .fields #[.ref a, .int 0 0] }).IsList a items) /\
    (∀ b ∈ [s.heap.objs.size, a], b < (s.heap.push { cls := .type "list_iterator", data := .fields #[.ref a, .int 0 0] }).objs.size) /\
    ∀ g : Heap, (∀ b o, b ∉ [s.heap.objs.size] -> (s.heap.push { cls := .type "list_iterator", data := .fields #[.ref a, .int 0 0] }).get? b = some o -> g.get? b = some o) -> ∀ b o, s.heap.get? b = some o -> g.get? b = some o := by
  have lt : a < s.heap.objs.size := by obtain ⟨_, e, _⟩ := hl; exact Heap.lt_size e
  refine ⟨Walks.list hh _ a (Nat.ne_of_lt lt) items, ⟨⟨_, Heap.get?_push_size _ rfl, rfl, rfl⟩, hl.push _⟩, fun b hb => ?_, fun g kp b o e => kp b o (fun z => ?_) (Heap.get?_push_of_some _ e)⟩
  · rw [Heap.size_push]
    simp at hb
    rcases hb with rfl | rfl
    · exact Nat.lt_succ_self _
    · exact Nat.lt_succ_of_lt lt
  · simp at z
    subst z
    exact Nat.lt_irrefl _ (Heap.lt_size e)
section
variable {X : Cx}
end
end Ng
end
section
namespace Ng
open PySem PySem.Spec PyProof.Rows L2
section
open PySem.SeqAt
open PySem.AutoSeq1 (wpAny_loadPart')
open PySem.MeetsSeq PySem.MeetsSeq2 PySem.MeetsSeq3
end
section
variable {X : Cx} {pins : List (Addr × Obj)} {σ : Sg} {H : Hp} {s : Shared} {m : List Addr}
end
end Ng
end
section
namespace Ng
open PySem PySem.Spec PyProof.Rows L2
section
variable {prog : Program} {w : World} {A : Around} {E : Value -> Shared -> Prop} {s : Shared}
theorem lsort_few {a : Addr} {vs : List Value} {n : Nat} {P : PySem.Fin -> Shared -> Prop} (ho : s.heap.get? a = some (seqObj "list" vs.toArray n)) (h1 : vs.length < 2)
    (h : P (.done (.ret .none)) { s with heap := sortedHeap s.heap a vs vs.toArray }) : wpAny (model prog w) A (Builtin.«list.sort» ⟨[.ref a], []⟩) P E s := by
  have la := Heap.lt_size ho
  obtain ⟨e1, o1⟩ : ∃ e1, (s.heap.update a (Obj.mapSeq fun _ => #[])).get? a = some (seqObj "list" #[] e1) := ⟨_, get?_update_seq ho (fun _ => #[])⟩
  have o6 : (((s.heap.update a (Obj.mapSeq fun _ => #[])).push (seqObj "tuple" vs.toArray 0)).push (seqObj "list" #[] 0)).get? a = some (seqObj "list" #[] e1) :=
    Heap.get?_push_of_some _ (Heap.get?_push_of_some _ o1)
  have few : vs.toArray.size < 2 := by simpa using h1
  have zs : (vs.toArray.zip vs.toArray).map (·.2) = vs.toArray := by
    apply Array.toList_inj.mp
    simp [List.map_snd_zip]
  rw [list_sort_plain]
  refine wpAny_bind (listItems_at ho rfl (wpAny_bind (listUpdate_at ho rfl (wpAny_bind (seqEpoch_at o1 rfl (wpAny_bind (wpAny_newTuple (wpAny_bind (wpAny_newList (wpAny_holding ?_)))))))))) 
  show wpAny (model prog w) A _ P E { s with heap := ((s.heap.update a (Obj.mapSeq fun _ => #[])).push (seqObj "tuple" vs.toArray 0)).push (seqObj "list" #[] 0) }
  dsimp only
  rw [if_pos few, if_pos few]
  refine wpAny_bind (wpAny_pure ?_)
  rw [StateT.run_pure]
  refine wpAny_bind (wpAny_pure ?_)
  dsimp only
  refine wpAny_bind (seqEpoch_at o6 rfl (wpAny_bind (listUpdate_at o6 rfl ?_ (hsz2 := by
    show ((vs.toArray.zip vs.toArray).map (·.2)).size <= _
    rw [zs, sizeLine_eq, List.size_toArray]; omega))))
  simp only [bne_self_eq_false, Bool.false_eq_true, if_false]
  refine wpAny_pure ?_
  show P (.done (.ret .none)) { s with heap := _ }
  have z2 : (arrOf (SortSt.mk' general' (vs.toArray.zip vs.toArray) #[] 7 none)).map (·.2) = vs.toArray := zs
  rw [z2]
  exact h
theorem sorted_few {l : Addr} {vs : List Value} {Q : Value -> Shared -> Prop} (hl : s.heap.IsList l vs.toArray) (h1 : vs.length < 2)
    (h : Q (.ref (s.heap.objs.size + 1)) { s with heap := sortedAll s.heap vs vs.toArray }) : wpAny (model prog w) A (call (.builtin "sorted") [.ref l]) Q E s := by
  refine Calls.call_function_entry kind_sorted plain_sorted entry_sorted (args_sorted1 _) ?_
  have z1 : ((s.heap.push (seqObj "list" #[] 0)).update s.heap.objs.size (Obj.mapSeq (· ++ vs.toArray))).objs.size = s.heap.objs.size + 1 := by rw [Heap.size_update, size_push']
  have o1 : (((s.heap.push (seqObj "list" #[] 0)).update s.heap.objs.size (Obj.mapSeq (· ++ vs.toArray))).push (seqObj "list" vs.toArray 0)).get? (s.heap.objs.size + 1) = some (seqObj "list" vs.toArray 0) := z1 ▸ Heap.get?_push_size _ rfl
  unfold Builtin.«sorted»
  refine wpAny_bind (m := checkCount "sorted" 1 1 _) (wpAny_pure (wpAny_bind (collect_list hl (wpAny_bind (wpAny_newList ?_)))))
  show wpAny _ _ _ _ _ { s with heap := ((s.heap.push (seqObj "list" #[] 0)).update s.heap.objs.size (Obj.mapSeq (· ++ vs.toArray))).push (seqObj "list" vs.toArray 0) }
  rw [z1]
  exact wpAny_bind (wpAny_holding (wpAny_call_entry slot_list_sort ⟨_, o1, rfl⟩ entry_list_sort (lsort_few o1 h1 ⟨_, rfl, wpAny_pure ⟨_, rfl, h⟩⟩) (args_list_sort _)))
end
theorem isTup_keep {h h' : Heap} {L a : Addr} {xs : Array Value} {mm : Str -> Option Value} (hn : h.Ns L mm) (k : ∀ b o, b ≠ L -> h.get? b = some o -> h'.get? b = some o) (t : IsTup h a xs) : IsTup h' a xs := by
  obtain ⟨o, h1, h2, n, h3⟩ := t
  refine ⟨o, k a o (fun z => ?_) h1, h2, n, h3⟩
  subst z
  obtain ⟨o', es, ep, g1, g2, _⟩ := hn
  rw [h1] at g1; cases g1
  rw [h3] at g2; cases g2
section
variable {X : Cx} {pins : List (Addr × Obj)} {σ : Sg} {H : Hp} {s : Shared} {m : List Addr} {K : PySem.W.Frag}
theorem tup_items (I : Inv X pins σ H s) {ds : List D} {v : V} {u : Value} (r : RD X.K m H (.tup ds) v) (rv : RelV v u) : ∃ a vs its, u = .ref a /\ RDs X.K m H ds vs /\ Vals vs its /\ IsTup s.heap a its.toArray := by
  cases r with
  | tup h q =>
    cases rv
    obtain ⟨its, p, t, _⟩ := I.tuple h
    exact ⟨_, _, its, rfl, q, p, t⟩
theorem kat_flat {prog : Program} {w : World} {A : Around} {b fin : Bool} {Q : Bool -> Shared -> Prop} {t : Shared} (hb : b = true) : ∀ {xs ys : List D} {vs us : List V} {its jts : List Value} {i : Nat} {c : Bool}, RDs K m H xs vs -> RDs K m H ys us -> Vals vs its -> Vals us jts -> ltF xs ys = some c ->
    ∀ (p q : Nat), p + its.length = q + jts.length -> fin = decide (q < p) -> Q c t -> PySem.W.KatLex prog w A b fin Q (its.zip jts) i t := by
  intro xs
  induction xs with
  | nil =>
    intro ys vs us its jts i c hx hy hv hu e p q hpq hf h
    cases hx; cases hv
    cases hy with
    | nil =>
      cases hu
      have e' : false = c := Option.some.inj e
      subst e'
      show Q fin t
      rw [hf, decide_eq_false (by simp at hpq; omega)]
      exact h
    | cons r2 q2 =>
      cases hu
      have e' : true = c := Option.some.inj e
      subst e'
      show Q fin t
      rw [hf, decide_eq_true (by simp at hpq; omega)]
      exact h
  | cons x xs ih =>
    intro ys vs us its jts i c hx hy hv hu e p q hpq hf h
    cases hx with
    | cons r1 q1 =>
    cases hv with
    | cons s1 t1 =>
    cases hy with
    | nil =>
      cases hu
      have e' : false = c := by
        cases x <;> exact Option.some.inj e
      subst e'
      show Q fin t
      rw [hf, decide_eq_false (by simp at hpq; omega)]
      exact h
    | cons r2 q2 =>
    cases hu with
    | cons s2 t2 =>
      simp only [List.length_cons] at hpq
      cases r1 <;> cases r2 <;> first | (simp [ltF] at e; done) | skip
      · rename_i a a'
        obtain ⟨tk, rfl⟩ := s1
        obtain ⟨tk', rfl⟩ := s2
        simp only [ltF] at e
        refine PySem.W.kat_cons (wpAny_eqBool_int ?_)
        by_cases z : a = a'
        · rw [if_pos z] at e
          rw [show (a == a') = true by simp [z]]
          exact PySem.W.kat_yes (ih q1 q2 t1 t2 e p q (by omega) hf h)
        · rw [if_neg z] at e
          have e' := Option.some.inj e
          rw [show (a == a') = false by simp [z]]
          refine PySem.W.kat_no ?_
          subst e' hb
          by_cases hi : i = 0
          · subst hi
            exact oneLt_int h
          · rw [show ((true && i == 0) : Bool) = false by simp [hi]]
            exact PySem.W.kat_one _ _ (PyProof.Rows.lt_int h)
      · rename_i a a'
        obtain ⟨tk, rfl⟩ := s1
        obtain ⟨tk', rfl⟩ := s2
        simp only [ltF] at e
        refine PySem.W.kat_cons (wpAny_eqBool_str ?_)
        by_cases z : a = a'
        · rw [if_pos z] at e
          rw [decide_eq_true z]
          exact PySem.W.kat_yes (ih q1 q2 t1 t2 e p q (by omega) hf h)
        · rw [if_neg z] at e
          have e' := Option.some.inj e
          rw [decide_eq_false z]
          refine PySem.W.kat_no ?_
          subst e' hb
          by_cases hi : i = 0
          · subst hi
            exact oneLt_str h
          · rw [show ((true && i == 0) : Bool) = false by simp [hi]]
            exact PySem.W.kat_one _ _ (lt_str h)
theorem getD_of {α : Type} {l : List α} {i : Nat} {x d : α} (h : l[i]? = some x) : l.getD i d = x := by simp [List.getD_eq_getElem?_getD, h]
theorem RDs.pick {ds : List D} {vs : List V} (q : RDs K m H ds vs) : ∀ (p : List Nat), (∀ i ∈ p, i < ds.length) -> RDs K m H (p.map fun i => ds.getD i .non) (p.map fun i => vs.getD i .non)
  | [], _ => .nil
  | i :: p, h => by
    have e := List.getElem?_eq_getElem (h i List.mem_cons_self)
    obtain ⟨v, hv, rv⟩ := q.get e
    refine .cons ?_ (RDs.pick q p fun j hj => h j (List.mem_cons_of_mem _ hj))
    show RD K m H (ds.getD i .non) (vs.getD i .non)
    rw [getD_of e, getD_of hv]
    exact rv
theorem vals_pick {vs : List V} {us : List Value} (q : Vals vs us) : ∀ (p : List Nat), (∀ i ∈ p, i < vs.length) -> Vals (p.map fun i => vs.getD i .non) (p.map fun i => us.getD i Value.none)
  | [], _ => .nil
  | i :: p, h => by
    have e := List.getElem?_eq_getElem (h i List.mem_cons_self)
    obtain ⟨v, hv, rv⟩ := q.get e
    refine .cons ?_ (vals_pick q p fun j hj => h j (List.mem_cons_of_mem _ hj))
    show RelV (vs.getD i .non) (us.getD i Value.none)
    rw [getD_of e, getD_of hv]
    exact rv
theorem ask_ok {prog : Program} {w : World} {A : Around} {s' : Shared} (I : Inv X pins σ H s) (kp : ∀ b o, b ≠ X.env.locals -> s.heap.get? b = some o -> s'.heap.get? b = some o) {k : Nat} {x y : D} {vx vy : V} {ux uy : Value} {c : Bool} {κ : SortKind} (hκ : κ = if k < 3 then oneType' else tuples' true)
    (kx : kdS x = k) (ky : kdS y = k) (k0 : k ≠ 0) (rx : RD X.K m H x vx) (ry : RD X.K m H y vy) (sx : RelV vx ux) (sy : RelV vy uy) (e : ltK x y = some c) {C : Bool -> Shared -> Prop} (h : C c s') :
    wpAny (model prog w) A (keyLt' κ ux uy) C (fun _ _ => False) s' := by
  obtain ⟨mm, hn, _⟩ := id I.loc
  have tup : ∀ {a b : List D}, x = .tup a -> y = .tup b -> ¬ k < 3 -> wpAny (model prog w) A (keyLt' κ ux uy) C (fun _ _ => False) s' := fun {a b} ea eb h3 => by
    subst ea eb
    rw [if_neg h3] at hκ
    subst hκ
    obtain ⟨a1, vs, its, rfl, q1, p1, t1⟩ := tup_items I rx sx
    obtain ⟨a2, us, jts, rfl, q2, p2, t2⟩ := tup_items I ry sy
    obtain ⟨o1, g1, _, n1, d1⟩ := isTup_keep hn kp t1
    obtain ⟨o2, g2, _, n2, d2⟩ := isTup_keep hn kp t2
    exact PySem.W.kat_lt g1 d1 g2 d2 (kat_flat (K := X.K) rfl q1 q2 p1 p2 (by simpa [ltK] using e) jts.length its.length (by simp; omega) (by simp) h)
  cases x with
  | int a =>
    cases y with
    | int b =>
      have z : 1 = k := kx
      subst z
      rw [if_pos (by decide)] at hκ
      subst hκ
      cases rx; cases ry
      obtain ⟨t, rfl⟩ := sx
      obtain ⟨t', rfl⟩ := sy
      have e' := Option.some.inj e
      subst e'
      exact PySem.W.kat_lt_int h
    | _ => simp [ltK] at e
  | str a =>
    cases y with
    | str b =>
      have z : 2 = k := kx
      subst z
      rw [if_pos (by decide)] at hκ
      subst hκ
      cases rx; cases ry
      obtain ⟨t, rfl⟩ := sx
      obtain ⟨t', rfl⟩ := sy
      have e' := Option.some.inj e
      subst e'
      exact PySem.W.kas_lt_str h
    | _ => simp [ltK] at e
  | tup a =>
    cases y with
    | tup b =>
      refine tup rfl rfl fun h3 => ?_
      cases a with
      | nil => exact k0 kx.symm
      | cons d ds => cases d <;> first | (exact k0 kx.symm) | (have z : 3 = k := kx; omega) | (have z : 4 = k := kx; omega)
    | _ => simp [ltK] at e
  | _ => simp [ltK] at e
theorem kind_ok {prog : Program} {w : World} {A : Around} {s' : Shared} (I : Inv X pins σ H s) (kp : ∀ b o, b ≠ X.env.locals -> s.heap.get? b = some o -> s'.heap.get? b = some o) {k : Nat} {l : List D} {vs : List V} {its : List Value} (h2 : 2 <= l.length) (hk : ∀ x ∈ l, kdS x = k) (k0 : k ≠ 0)
    (q : RDs X.K m H l vs) (p : Vals vs its) {C : SortKind -> Shared -> Prop} (h : C (if k < 3 then oneType' else tuples' true) s') : wpAny (model prog w) A (keyKind' its.toArray) C (fun _ _ => False) s' := by
  obtain ⟨mm, hn, _⟩ := id I.loc
  have ln := q.length
  have ln2 := p.length
  have mem : ∀ u ∈ its, ∃ x ∈ l, ∃ v, RD X.K m H x v /\ RelV v u := fun u hu => by
    obtain ⟨i, hi, rfl⟩ := List.mem_iff_getElem.mp hu
    obtain ⟨x, ex⟩ : ∃ x, l[i]? = some x := ⟨_, List.getElem?_eq_getElem (by omega)⟩
    obtain ⟨v, hv, rv⟩ := q.get ex
    obtain ⟨u, hu, ru⟩ := p.get hv
    rw [List.getElem?_eq_getElem hi] at hu
    cases hu
    exact ⟨x, List.mem_of_getElem? ex, v, rv, ru⟩
  by_cases h3 : k < 3
  · rw [if_pos h3] at h
    by_cases h1 : k = 1
    · refine PySem.W.kas_kind (T := .type "int") (by omega) (fun u hu => ?_) (by decide) (by decide) h
      obtain ⟨x, hx, v, rx, rv⟩ := mem u hu
      have := hk x hx
      cases rx <;> first | (exfalso; simp [kdS] at this; omega) | skip
      · obtain ⟨t, rfl⟩ := rv
        exact .now
      · rename_i a ds vs' hq q'
        exfalso
        cases ds with
        | nil => simp [kdS] at this; omega
        | cons d ds => cases d <;> simp [kdS] at this <;> omega
    · have h1 : k = 2 := by omega
      refine PySem.W.kas_kind (T := .type "str") (by omega) (fun u hu => ?_) (by decide) (by decide) h
      obtain ⟨x, hx, v, rx, rv⟩ := mem u hu
      have := hk x hx
      cases rx <;> first | (exfalso; simp [kdS] at this; omega) | skip
      · obtain ⟨t, rfl⟩ := rv
        exact .now
      · rename_i a ds vs' hq q'
        exfalso
        cases ds with
        | nil => simp [kdS] at this; omega
        | cons d ds => cases d <;> simp [kdS] at this <;> omega
  · rw [if_neg h3] at h
    have T : ∃ T : Value, (T = .type "int" \/ T = .type "str") /\ ∀ x ∈ l, ∃ d ds, x = .tup (d :: ds) /\ ((T = .type "int" /\ ∃ i, d = .int i) \/ (T = .type "str" /\ ∃ i, d = .str i)) := by
      by_cases h4 : k = 3
      · refine ⟨.type "int", .inl rfl, fun x hx => ?_⟩
        have := hk x hx
        cases x <;> first | (exfalso; simp [kdS] at this; omega) | skip
        rename_i ds
        cases ds with
        | nil => exfalso; simp [kdS] at this; omega
        | cons d ds => cases d <;> first | (exfalso; simp [kdS] at this; omega) | exact ⟨_, _, rfl, .inl ⟨rfl, _, rfl⟩⟩
      · refine ⟨.type "str", .inr rfl, fun x hx => ?_⟩
        have := hk x hx
        cases x <;> first | (exfalso; simp [kdS] at this; omega) | skip
        rename_i ds
        cases ds with
        | nil => exfalso; simp [kdS] at this; omega
        | cons d ds => cases d <;> first | (exfalso; simp [kdS] at this; omega) | exact ⟨_, _, rfl, .inr ⟨rfl, _, rfl⟩⟩
    obtain ⟨T, hT, hl⟩ := T
    have go : ∀ {l : List D} {vs : List V} {its : List Value}, (∀ x ∈ l, ∃ d ds, x = .tup (d :: ds) /\ ((T = .type "int" /\ ∃ i, d = .int i) \/ (T = .type "str" /\ ∃ i, d = .str i))) -> RDs X.K m H l vs -> Vals vs its ->
        ∃ fs, PySem.W.KatTups s'.heap its fs /\ fs.length = l.length /\ ∀ f ∈ fs, PySem.W.Looks (model prog w) s'.heap (typeOf f) T := by
      intro l
      induction l with
      | nil =>
        intro vs its _ q p
        cases q; cases p
        exact ⟨[], trivial, rfl, fun f hf => by cases hf⟩
      | cons x l ih =>
        intro vs its hl q p
        cases q with
        | cons r q =>
          cases p with
          | cons sv p =>
            obtain ⟨fs, f1, f2, f3⟩ := ih (fun y hy => hl y (List.mem_cons_of_mem _ hy)) q p
            obtain ⟨d, ds, rfl, hd⟩ := hl x List.mem_cons_self
            obtain ⟨a, vs', its', rfl, q', p', t'⟩ := tup_items I r sv
            obtain ⟨o, g1, g2, n, g3⟩ := isTup_keep hn kp t'
            cases q' with
            | cons rd q' =>
              cases p' with
              | cons sd p' =>
                rename_i u us
                refine ⟨u :: fs, PySem.W.KatTups.cons g1 g2 g3 (by simp) f1, by simp [f2], fun f hf => ?_⟩
                rcases List.mem_cons.mp hf with rfl | hf
                · rcases hd with ⟨rfl, i, rfl⟩ | ⟨rfl, i, rfl⟩
                  · cases rd; obtain ⟨t, rfl⟩ := sd; exact .now
                  · cases rd; obtain ⟨t, rfl⟩ := sd; exact .now
                · exact f3 f hf
    obtain ⟨fs, f1, f2, f3⟩ := go hl q p
    refine PySem.W.kat_kind f1 (by omega) f3 (by rcases hT with rfl | rfl <;> decide) ?_
    rw [show (T != Value.type "tuple") = true by rcases hT with rfl | rfl <;> decide]
    exact h
theorem sorted_many (I : Inv X pins σ H s) {h : Hh} (w : Wd X.K m h H) {a : Addr} {l l' : List D} {vs : List V} (hq : SqL X.K H a vs) (q : RDs X.K m H l vs) (h2 : 2 <= l.length) (h64 : l.length < 64) {k : Nat} (k0 : k ≠ 0) (hk : ∀ x ∈ l, kdS x = k) (hp : l'.Perm l) (hs : l'.Pairwise (Bef ltK)) {Q : VK}
    (c : ∀ (p : Addr) (us : List V), H p = none -> RDs X.K m H l' us -> us.length <= sizeLine -> Q (.ref p) (upd H p (.lst us))) : wpAny (model X.prog X.w) X.A (call (.builtin "sorted") [.ref a]) (EP X pins σ Q) X.xe s := by
  obtain ⟨its, p1, t1, _⟩ := I.list hq
  have l1 := q.length
  have l2 := p1.length
  obtain ⟨mm, F⟩ := I.fr
  have hL : H X.env.locals = none := I.free
  refine PySem.W.kat_sorted F (news_all (g := X.base)) t1.isList (by omega) (by omega) fun Dn e1 h' F' N' ltD => ?_
  have D0 := N' (Dn, seqObj "list" #[] e1) List.mem_cons_self
  have notD : ∀ b o, s.heap.get? b = some o -> b ≠ Dn := fun b o e z => by
    subst z
    exact Nat.lt_irrefl _ (ltD (b, o) (mem_allNews D0.2.1 D0.2.2 e))
  have HD : H Dn = none := by
    cases e : H Dn with
    | none => rfl
    | some o =>
      obtain ⟨u, hu⟩ := objOk_some (I.hok Dn o e)
      exact absurd rfl (notD Dn u hu)
  have kp : ∀ b o, b ≠ X.env.locals -> s.heap.get? b = some o -> h'.get? b = some o := fun b o hb e => by
    cases z : X.base.get? b with
    | some u =>
      have := I.bk b u z
      rw [e] at this; cases this
      exact F'.keep b _ z
    | none => exact (N' (b, o) (List.mem_cons_of_mem _ (mem_allNews hb z e))).1
  refine kind_ok I (s' := { s with heap := h' }) kp h2 hk k0 q p1 ?_
  let L : Nat -> Nat -> Bool := fun i j => decide (i ≠ j) && (ltK (l.getD i .non) (l.getD j .non) == some true)
  have hne : ∀ i, L i i = false := fun i => by simp [L]
  have hL' : ∀ (i j : Nat) (x y : D), l[i]? = some x -> l[j]? = some y -> i ≠ j -> (L i j = true ↔ ltK x y = some true) := fun i j x y ex ey ne => by
    simp [L, ne, ex, ey, List.getD_eq_getElem?_getD]
  have so := so_of hp hs hne hL'
  have it1 : its.length = l.length := by omega
  rw [it1]
  refine KOk.wp (fun i j C hi hj ne hC => ?_) (sort_ok so h2) fun p ⟨hv, hsd⟩ => ?_
  · have ex : l[i]? = some l[i] := List.getElem?_eq_getElem hi
    have ey : l[j]? = some l[j] := List.getElem?_eq_getElem hj
    obtain ⟨vx, hvx, rx⟩ := q.get ex
    obtain ⟨vy, hvy, ry⟩ := q.get ey
    obtain ⟨ux, hux, sx⟩ := p1.get hvx
    obtain ⟨uy, huy, sy⟩ := p1.get hvy
    have lt : ltK l[i] l[j] = some (L i j) := by
      obtain ⟨a1, b1⟩ := pos_of hp ex
      obtain ⟨a2, b2⟩ := pos_of hp ey
      have nd : l.Nodup := hp.nodup_iff.mp (chain_nd hs)
      have na : a1 ≠ a2 := fun z => by
        subst z; rw [b1] at b2
        have e2 := Option.some.inj b2
        exact ne (get_inj nd ex (by rw [e2]; exact ey))
      rcases Nat.lt_or_gt_of_ne na with z | z
      · have bf := (ch_lt hs b1 b2 na).2 z
        rw [bf.1, (hL' i j _ _ ex ey ne).mpr bf.1]
      · have bf := (ch_lt hs b2 b1 (Ne.symm na)).2 z
        have : L i j = false := by
          cases e : L i j with
          | false => rfl
          | true =>
            have := (hL' i j _ _ ex ey ne).mp e
            rw [bf.2] at this; cases this
        rw [bf.2, this]
    show wpAny _ _ (keyLt' _ (its.getD i Value.none) (its.getD j Value.none)) C _ _
    rw [getD_of hux, getD_of huy]
    exact ask_ok I (s' := { s with heap := h' }) kp rfl (hk _ (List.mem_of_getElem? ex)) (hk _ (List.mem_of_getElem? ey)) k0 rx ry sx sy lt hC
  · have pl : ∀ i ∈ p.toList, i < l.length := fun i hi => List.mem_range.mp (hv.mem_iff.mp hi)
    have out := out_of hp hs hL' hv hsd D.non
    have rd := q.pick p.toList pl
    rw [out] at rd
    have vl := vals_pick p1 p.toList (fun i hi => by have := pl i hi; omega)
    have hz := hv.size
    have lz : (p.toList.map fun i => vs.getD i .non).length <= sizeLine := by rw [List.length_map, Array.length_toList, hz, sizeLine_eq]; omega
    refine ⟨_, _, F', N', .head (fun r hr => Nat.ne_of_lt (ltD r hr)), fun h2 cc F2 N2 => ?_⟩
    have kp2 : ∀ b o, b ≠ X.env.locals -> s.heap.get? b = some o -> h2.get? b = some o := fun b o hb e => by
      cases z : X.base.get? b with
      | some u =>
        have := I.bk b u z
        rw [e] at this; cases this
        exact F2.keep b _ z
      | none => exact (N2 (b, o) (List.mem_cons_of_mem _ (mem_allNews hb z e))).1
    have D2 := N2 (Dn, _) List.mem_cons_self
    have tr : ∀ b o, H b = some o -> b ≠ Dn /\ b ≠ X.env.locals := fun b o e => ⟨(fun z => by rw [z, HD] at e; cases e), (fun z => by rw [z, hL] at e; cases e)⟩
    suffices IX : Inv X pins σ (upd H Dn (.lst (p.toList.map fun i => vs.getD i .non))) { s with heap := h2, gens := s.gens, drawn := s.drawn, toks := s.toks } from
      ⟨.ref Dn, upd H Dn (.lst (p.toList.map fun i => vs.getD i .non)), IX, rfl, c Dn _ HD rd lz⟩
    refine L2.Inv.step (s := s) (g' := s.gens) (d' := s.drawn) (t' := s.toks) (ch := []) I (fun _ z => nomatch z) (fun b o hb _ _ e _ => kp2 b o hb e) (fun b o hb _ _ e _ => ⟨o.slots, kp2 b o hb e⟩) (fun b o _ e n => by rw [upd_ne (notD b o e)]; exact n) (fun b o _ e => ?_) (fun b xs e => by rw [upd_ne (tr b _ e).1]; exact e) (fun b o u e => by rw [upd_ne (tr b _ e).1]; exact e)
      (fun b ps e => ⟨#[], by rw [upd_ne (tr b _ e).1, e]; simp⟩) (fun m' hm => ?_) (fun b o e => ?_) I.bare
    · by_cases hb : b = X.env.locals
      · subst hb
        obtain ⟨o', _, _, e', _⟩ := F2.ns
        exact ⟨o', e'⟩
      · exact ⟨o, kp2 b o hb e⟩
    · have : m' = mm := funext fun x => hm.agree F.ns x
      rw [this]; exact F2.ns
    · by_cases hb : b = Dn
      · subst hb
        rw [upd_same] at e
        cases e
        exact ⟨lz, _, cc, vl, D2.1⟩
      · rw [upd_ne hb] at e
        refine (I.hok b o e).stay (fun b' u hb' e' => kp2 b' u ?_ e') (fun b' e' => by rw [upd_ne (tr b' _ e').1]; exact e') fun b' xs e' => by rw [upd_ne (tr b' _ e').1]; exact e'
        rcases hb' with z | z
        · rw [z]; exact (tr b _ e).2
        · exact (tr b' _ z).2
end
end Ng
end
section
namespace Ng
open PySem PySem.Spec PyProof.Rows L2
section
variable {X : Cx}
def tyName : D -> Hh -> Option String
  | .non, _ => some "NoneType"
  | d, h => (tyD d h).map Ty.nm
theorem isin_kit {K : PySem.W.Frag} {d : D} {h : Hh} {T : String} {b : Bool} (e : isinD d T h = some b) : ∃ t, tyName d h = some t /\ PySem.W.kitOne K (.type t) (.type T) = some b := by
  unfold isinD at e
  split at e
  · split at e
    · rename_i hT
      have eb := Option.some.inj e
      subst eb
      refine ⟨"NoneType", rfl, ?_⟩
      simp [tyNames] at hT
      rcases hT with rfl | rfl | rfl | rfl | rfl <;> rfl
    · cases e
  · rename_i hn
    split at e
    · rename_i t et
      split at e
      · rename_i hT
        have eb := Option.some.inj e
        subst eb
        refine ⟨t.nm, ?_, ?_⟩
        · cases d <;> first | (exact absurd rfl hn) | (simp [tyName, et])
        · simp [tyNames] at hT
          cases t <;> rcases hT with rfl | rfl | rfl | rfl | rfl <;> rfl
      · cases e
    · cases e
theorem kia_D {pins : List (Addr × Obj)} {σ : Sg} {H : Hp} {s : Shared} {m : List Addr} {h : Hh} (I : Inv X pins σ H s) (w : Wd X.K m h H) {d : D} {v : V} {u : Value} {t : String} (r : RD X.K m H d v) (rv : RelV v u) (e : tyName d h = some t) :
    ∃ P : Heap -> Prop, PySem.W.KitX X.K u (.type t) P /\ P s.heap /\ u ≠ .builtin "__main__.__loader__#opaque" := by
  cases r with
  | non => cases rv; cases e; exact ⟨_, PySem.W.kitx_none, trivial, fun z => nomatch z⟩
  | bl c => cases rv; cases e; exact ⟨_, PySem.W.kitx_bool, trivial, fun z => nomatch z⟩
  | int i => obtain ⟨t', rfl⟩ := rv; cases e; exact ⟨_, PySem.W.kitx_int, trivial, fun z => nomatch z⟩
  | str x => obtain ⟨t', rfl⟩ := rv; cases e; exact ⟨_, PySem.W.kitx_str, trivial, fun z => nomatch z⟩
  | ty n => cases e
  | tup h1 q =>
    cases rv; cases e
    obtain ⟨its, p1, ⟨o, h2, h3, _⟩, _⟩ := I.tuple h1
    exact ⟨_, PySem.W.kitx_tuple, ⟨o, h2, h3⟩, fun z => nomatch z⟩
  | ref ha =>
    rename_i n a
    cases rv
    simp only [tyName, tyD] at e
    cases z : lstAt h n with
    | none => rw [z] at e; cases e
    | some l =>
      rw [z] at e
      have e' : "list" = t := Option.some.inj e
      subst e'
      obtain ⟨a', vs, ha', hq, q⟩ := w.lst z
      rw [ha] at ha'; cases ha'
      obtain ⟨its, p1, ⟨o, k, h2, h3, _⟩, _⟩ := I.list hq
      exact ⟨_, PySem.W.kitx_list, ⟨o, h2, h3⟩, fun z => nomatch z⟩
theorem vals2R {x y : V} {us : List Value} (r : Vals [x, y] us) : ∃ u v, us = [u, v] /\ RelV x u /\ RelV y v := by
  cases r with
  | cons a t => cases t with
    | cons b t => cases t; exact ⟨_, _, rfl, a, b⟩
theorem one_of {K : PySem.W.Frag} {m : List Addr} {H : Hp} {k : D -> Hh -> Rs D} {ds : List D} {xs : List V} {h h' : Hh} {d : D} (r : RDs K m H ds xs) (e : one k ds h = .ok d h') : ∃ x v, xs = [v] /\ RD K m H x v /\ k x h = .ok d h' := by
  cases r with
  | nil => cases e
  | cons r1 r =>
    cases r with
    | nil => exact ⟨_, _, rfl, r1, e⟩
    | cons => cases e
theorem two_of {K : PySem.W.Frag} {m : List Addr} {H : Hp} {k : D -> D -> Hh -> Rs D} {ds : List D} {xs : List V} {h h' : Hh} {d : D} (r : RDs K m H ds xs) (e : two k ds h = .ok d h') : ∃ x y v u, xs = [v, u] /\ RD K m H x v /\ RD K m H y u /\ k x y h = .ok d h' := by
  cases r with
  | nil => cases e
  | cons r1 r =>
    cases r with
    | nil => cases e
    | cons r2 r =>
      cases r with
      | nil => exact ⟨_, _, _, _, rfl, r1, r2, e⟩
      | cons => cases e
theorem tys_vals {K : PySem.W.Frag} {m : List Addr} {H : Hp} : ∀ {ds : List D} {vs : List V} {us : List Value} {Ts : List String}, RDs K m H ds vs -> Vals vs us -> tysOf ds = some Ts -> us = Ts.map Value.type
  | _, _, _, _, .nil, .nil, e => by
    have e' := Option.some.inj e
    subst e'
    rfl
  | _, _, _, _, .cons r q, .cons v t, e => by
    cases r <;> first | (cases e; done) | skip
    simp only [tysOf] at e
    split at e
    · rename_i l el
      have e' := Option.some.inj e
      subst e'
      cases v
      rw [tys_vals q t el]
      rfl
    · cases e
theorem isinAny_kit {K : PySem.W.Frag} {d : D} {h : Hh} {t : String} (et : tyName d h = some t) : ∀ {Ts : List String} {b : Bool}, isinAny d h Ts = some b -> PySem.W.kitAny K (.type t) (Ts.map Value.type) = some b
  | [], b, e => e
  | T :: r, b, e => by
    simp only [isinAny] at e
    split at e
    · rename_i a c e1 e2
      have e' := Option.some.inj e
      subst e'
      obtain ⟨t', et', ek⟩ := isin_kit (K := K) e1
      rw [et] at et'; cases et'
      have ih := isinAny_kit (K := K) et e2
      simp only [List.map_cons, PySem.W.kitAny, ek, ih]
      cases a <;> rfl
    · cases e
def Blt.val : Blt -> Value
  | .len => .builtin "len" | .isinst => .builtin "isinstance" | .int => .type "int" | .list => .type "list" | .sorted => .builtin "sorted" | .all => .builtin "all" | .tup => .type "tuple" | .zip => .type "zip"
theorem lst_of {m : List Addr} {h : Hh} {H : Hp} {K : PySem.W.Frag} (w : Wd K m h H) {d : D} {v : V} {l : List D} (r : RD K m H d v) (hl : isLst d h = true) (e : seqD d h = some l) : ∃ p vs, v = .ref p /\ SqL K H p vs /\ RDs K m H l vs := by
  cases r <;> first | (cases hl; done) | skip
  rename_i n a ha
  obtain ⟨a', vs, ha', hq, q⟩ := w.lst (show lstAt h n = some l from e)
  rw [ha] at ha'; cases ha'
  exact ⟨a, vs, rfl, hq, q⟩
theorem sortBlt : CallR X (.builtin "sorted") (rDc X.K (one srtL)) := by
  intro pins s σ H xs us Q I rs q
  obtain ⟨m, h, ds, d, h', w, r, e, c⟩ := q
  obtain ⟨x, v, rfl, r1, e⟩ := one_of r e
  unfold srtL at e
  split at e
  · rename_i l hl el
    split at e
    · rename_i l' es
      simp at e
      obtain ⟨rfl, rfl⟩ := e
      obtain ⟨⟨h64, hk⟩, hp, hs⟩ := srtD_of es
      obtain ⟨p, vs, rfl, hq, q⟩ := lst_of w r1 hl el
      obtain ⟨u, rfl, ru⟩ := vals1 rs
      cases ru
      have fin : ∀ (p : Addr) (us : List V), H p = none -> RDs X.K m H l' us -> us.length <= sizeLine -> Q (.ref p) (upd H p (.lst us)) := fun p us hp rd _ => by
        obtain ⟨w2, g2⟩ := w.lstNew hp rd
        exact c _ _ _ g2 w2 (.ref (by rw [<- w.len]; simp))
      by_cases h2 : 2 <= l.length
      · rcases hk with z | ⟨k, k0, hk⟩
        · omega
        · exact sorted_many I w hq q h2 h64 k0 hk hp hs fin
      · obtain ⟨its, p1, t1, _⟩ := I.list hq
        have l1 := q.length
        have l2 := p1.length
        have ell : l' = l := by
          have := hp.length_eq
          rcases l with _ | ⟨x, _ | ⟨y, l⟩⟩
          · exact List.perm_nil.mp hp
          · exact List.perm_singleton.mp hp
          · simp at h2
        subst ell
        refine sorted_few t1.isList (by omega) ?_
        obtain ⟨e1, ho⟩ := sortedAll_at s.heap its its.toArray
        have kp : ∀ b o, s.heap.get? b = some o -> (sortedAll s.heap its its.toArray).get? b = some o := fun b o e => sortedAll_old e
        have fr : H (s.heap.objs.size + 1) = none := I.hok.fresh (Nat.le_succ _)
        have lz : vs.length <= sizeLine := by rw [sizeLine_eq]; omega
        exact ⟨.ref _, _, I.laid (t' := s.toks) (o := .lst vs) kp (Nat.le_succ _) ⟨lz, its, e1, p1, ho⟩, rfl, fin _ vs fr q lz⟩
    · cases e
  · cases e
theorem bls_rel {K : PySem.W.Frag} {m : List Addr} {H : Hp} : ∀ {ds : List D} {vs : List V} {us : List Value} {l : List Bool}, RDs K m H ds vs -> Vals vs us -> blsD ds = some l -> us = l.map Value.bool
  | _, _, _, _, .nil, .nil, e => by cases e; rfl
  | _, _, _, _, .cons r q, .cons v t, e => by
    cases r <;> first | (cases e; done) | skip
    simp only [blsD, Option.map_eq_some_iff] at e
    obtain ⟨l, e1, rfl⟩ := e
    cases v
    rw [bls_rel q t e1]
    rfl
theorem range_all {bs : List Bool} : (List.range bs.length).all (fun i => bs.getD i false) = bs.all id := by
  induction bs with
  | nil => rfl
  | cons b bs ih =>
    rw [List.length_cons, List.range_succ_eq_map, List.all_cons, List.all_map, List.all_cons]
    congr 1
theorem allBlt (hc : X.calm = true) : CallR X (.builtin "all") (rDc X.K (one allL)) := by
  intro pins s σ H xs us Q I rs q
  obtain ⟨m, h, ds, d, h', w, r, e, c⟩ := q
  obtain ⟨x, v, rfl, r1, e⟩ := one_of r e
  unfold allL at e
  split at e
  · rename_i l hl el
    split at e
    · rename_i bs eb
      simp at e
      obtain ⟨rfl, rfl⟩ := e
      obtain ⟨p, vs, rfl, hq, q⟩ := lst_of w r1 hl el
      obtain ⟨u, rfl, ru⟩ := vals1 rs
      cases ru
      obtain ⟨its, p1, t1, _⟩ := I.list hq
      have ei := bls_rel q p1 eb
      subst ei
      refine call_all_walk (wpAny_pyIter_list t1.isList ?_)
      obtain ⟨h1, h2, h3, h4⟩ := listWalk (A := X.A.in1) (prog := X.prog) (w := X.w) (s := s) (I.ok.hd hc) t1.isList
      refine ⟨_, _, _, _, _, _, fun i => bs.getD i false, rfl, h1, h2, ?_, fun g tk kp => ⟨.bl (bs.all id), H, I.kept (h4 g kp), ?_, c m _ H Gr.refl w (.bl _)⟩⟩
      · intro i v s' Q' E' hv hQ
        have hv' : (bs.map Value.bool)[i]? = some v := by simpa using hv
        rw [List.getElem?_map, Option.map_eq_some_iff] at hv'
        obtain ⟨b, hb, rfl⟩ := hv'
        have : bs.getD i false = b := by rw [List.getD_eq_getElem?_getD, hb]; rfl
        have hQ' : Q' (bs.getD i false) s' := hQ
        rw [this] at hQ'
        exact wpAny_truthy_bool hQ'
      · have : (bs.map Value.bool).toArray.size = bs.length := by simp
        rw [this, range_all]; rfl
    · cases e
  · cases e
theorem callBlt (hc : X.calm = true) (hr : ∃ k, Room k X.A) (f : Blt) : CallR X f.val (rDc X.K (bltD f)) := by
  by_cases hm2 : f = .sorted
  · subst hm2; exact sortBlt
  by_cases hm3 : f = .all
  · subst hm3; exact allBlt hc
  intro pins s σ H xs us Q I rs q
  obtain ⟨m, h, ds, d, h', w, r, e, c⟩ := q
  have fin : ∀ z, RD X.K m H d z -> h = h' -> Q z H := fun z rz eh => by subst eh; exact c m z H Gr.refl w rz
  cases f with
  | sorted => exact absurd rfl hm2
  | len =>
    obtain ⟨x, v, rfl, r1, e⟩ := one_of r e
    unfold lenL at e
    split at e
    · rename_i l el
      simp at e
      obtain ⟨rfl, rfl⟩ := e
      obtain ⟨p, vs, rfl, hq, q⟩ := seq_of w r1 el
      refine call_len_seq pins s σ H _ us Q I rs ⟨p, vs, rfl, hq, ?_⟩
      rw [<- q.length]
      exact fin _ (.int _) rfl
    · split at e
      · split at e
        · rename_i hz
          cases e
          cases r1
          exact call_len_str pins s σ H _ us Q I rs ⟨_, rfl, hz, fin _ (.int _) rfl⟩
        · cases e
      · split at e
        · rename_i l el
          simp at e
          obtain ⟨rfl, rfl⟩ := e
          obtain ⟨n, a, xs, us', o, es, ep, rfl, rfl, hn, ha, hf, df, go, hk, hks, rv, vv, dd⟩ := dtf_at I w r1 el
          obtain ⟨u, rfl, ru⟩ := vals1 rs
          cases ru
          obtain ⟨d1, d2, d3, d4, ⟨P, w', d5⟩, d6⟩ := df
          have ez : es.size = l.length := by
            have z1 := congrArg List.length d5
            have z2 := congrArg List.length hk
            simp at z1 z2
            omega
          have zl : l.length = xs.length := by have z2 := congrArg List.length hk; simpa using z2
          refine call_dlen d1 go d3 d4 (by omega) ⟨.int es.size, H, I.tok _, ⟨_, rfl⟩, ?_⟩
          rw [ez]
          exact fin _ (.int _) rfl
        · cases e
  | all => exact absurd rfl hm3
  | zip => exact nomatch (show (Rs.bad : Rs D) = .ok d h' from e)
  | tup =>
    obtain ⟨x, v, rfl, r1, e⟩ := one_of r e
    unfold tupL at e
    split at e
    · rename_i l hl el
      simp at e
      obtain ⟨rfl, rfl⟩ := e
      obtain ⟨p, vs, rfl, hq, q⟩ := lst_of w r1 hl el
      exact call_tuple_of pins s σ H _ us Q I rs ⟨p, vs, rfl, .inl ⟨hq, fun a ha => c m _ _ (Gr.tupNew ha) (w.keepNew ha) (.tup (.of upd_same) (q.mono (Gr.tupNew ha)))⟩⟩
    · cases e
  | int =>
    obtain ⟨x, v, rfl, r1, e⟩ := one_of r e
    cases r1 <;> first | (cases e; done) | skip
    · cases e
      exact call_int1 pins s σ H _ us Q I rs (.inr ⟨_, rfl, fin _ (.int _) rfl⟩)
    · cases e
      exact call_int1 pins s σ H _ us Q I rs (.inl ⟨_, rfl, fin _ (.int _) rfl⟩)
  | list =>
    obtain ⟨x, v, rfl, r1, e⟩ := one_of r e
    unfold listL at e
    split at e
    · rename_i l el
      simp at e
      obtain ⟨rfl, rfl⟩ := e
      obtain ⟨p, vs, rfl, hq, q⟩ := seq_of w r1 el
      refine call_list_of pins s σ H _ us Q I rs ⟨p, vs, rfl, hq, fun a ha => ?_⟩
      obtain ⟨w2, g2⟩ := w.lstNew ha q
      exact c _ _ _ g2 w2 (.ref (by rw [<- w.len]; simp))
    · cases e
  | isinst =>
    obtain ⟨x, y, v, u, rfl, r1, r2, e⟩ := two_of r e
    obtain ⟨u1, u2, rfl, rv1, rv2⟩ := vals2R rs
    cases r2 <;> first | (cases e; done) | skip
    · rename_i T
      cases rv2
      simp only [isinL] at e
      split at e
      · rename_i b eb
        simp at e
        obtain ⟨rfl, rfl⟩ := e
        obtain ⟨t, et, ek⟩ := isin_kit (K := X.K) eb
        obtain ⟨P, Z, hP, hx⟩ := kia_D I w r1 rv1 et
        exact PySem.W.kia_one Z I.kIn hP ek hx fun tk => ⟨.bl b, H, I.tok tk, rfl, fin _ (.bl b) rfl⟩
      · cases e
    · rename_i a ds vs h1 q1
      cases rv2
      simp only [isinL] at e
      split at e
      · cases e
      · rename_i T Ts eT
        split at e
        · rename_i b eb
          simp at e
          obtain ⟨rfl, rfl⟩ := e
          have e1 : ∃ k, isinD x T h = some k := by
            simp only [isinAny] at eb
            split at eb
            · rename_i z _; exact ⟨_, z⟩
            · cases eb
          obtain ⟨k, e1⟩ := e1
          obtain ⟨t, et, _⟩ := isin_kit (K := X.K) e1
          obtain ⟨P, Z, hP, hx⟩ := kia_D I w r1 rv1 et
          obtain ⟨its, p1, ⟨⟨oc, od, odt, osl⟩, h2, h3, n, h4⟩, _⟩ := I.tuple h1
          simp only at h3 h4
          subst h3 h4
          rw [tys_vals q1 p1 eT] at h2
          exact PySem.W.kia_tup Z I.kIn hP h2 (isinAny_kit et eb) hx fun tk => ⟨.bl b, H, I.tok tk, rfl, fin _ (.bl _) rfl⟩
        · cases e
      · cases e
end
end Ng
end
section
namespace Ng
open PySem PySem.Spec PyProof.Rows L2
section
variable {X : Cx} {N : List Str} {sc : Scope} {G : Gs} {cl : Cl}
theorem visB_ok {x : Str} (h : visB sc x = true) : Vis sc x := by
  unfold visB at h
  split at h
  · rename_i e; exact .inl e
  · rename_i e; exact .inr (.inl e)
  · rename_i e; exact .inr (.inr e)
  · cases h
theorem locB_ok {x : Str} (h : locB sc x = true) : Loc sc x := by
  unfold locB at h
  split at h
  · rename_i e; exact .inl e
  · rename_i e; exact .inr e
  · cases h
theorem glB_ok (xo : XOk X N sc) {x : Str} (h : glB sc x = true) : Gl X x := by
  unfold glB at h
  split at h
  · rename_i e
    show X.env.scope.names.lookup x = some .globalImplicit
    rw [xo.s]; exact e
  · cases h
theorem noDbg_ok {x : Str} (h : noDbg x = true) : (x == ("__debug__" : Str)) = false /\ (x == ("__classdict__" : Str)) = false /\ x ≠ "__name__" := by
  unfold noDbg at h
  simp only [Bool.and_eq_true, Bool.not_eq_true'] at h
  exact ⟨h.1.1, h.1.2, fun z => by have := h.2; rw [z] at this; simp at this⟩
theorem tOf {e : PySem.Expr} {f : Ev -> Hh -> Rs D} (h : PE X e (TDE X.K f)) (he : ∀ whole, isTrue e X.env whole = (do let v <- whole; standAt e.pos; holding [v] (truthy v))) : PT X e (TDT X.K f) :=
  L2.PT.wk (pt_truth h he) fun s H Q ⟨m, r, hh, d, h', b, w, st, e1, eb, c⟩ => ⟨m, r, hh, d, h', w, st, e1, fun m' v H' g w' rd => ⟨b, truRel w' rd eb, c m' H' g w'⟩⟩
theorem inK_bl {x d : D} {l : List (Key × D)} {n : Bool} {h h' : Hh} (e : inK x l n h = .ok d h') : ∃ k, d = .bl k := by
  unfold inK at e
  split at e <;> first | (cases e; exact ⟨_, rfl⟩) | (cases e; done)
theorem inD_bl {x d : D} {l : List D} {n : Bool} {h h' : Hh} (e : inD x l n h = .ok d h') : ∃ k, d = .bl k := by
  unfold inD at e
  split at e <;> first | (cases e; exact ⟨_, rfl⟩) | (cases e; done)
theorem cmpD_bl {op : Cop} {x y d : D} {h h' : Hh} (e : cmpD op x y h = .ok d h') : ∃ k, d = .bl k := by
  unfold cmpD at e
  repeat' split at e
  all_goals first
    | (cases e; exact ⟨_, rfl⟩)
    | exact inK_bl e
    | exact inD_bl e
    | (cases e; done)
def tAndG (K : PySem.W.Frag) (ta tb : TE) : TE := fun σ H Q => ta σ H fun x H1 => ∃ k, TruV K x H1 k /\ if k = true then tb σ H1 Q else Q x H1
def tOrG (K : PySem.W.Frag) (ta tb : TE) : TE := fun σ H Q => ta σ H fun x H1 => ∃ k, TruV K x H1 k /\ if k = true then Q x H1 else tb σ H1 Q
def tNotG (K : PySem.W.Frag) (ta : TE) : TE := fun σ H Q => ta σ H fun x H1 => ∃ k, TruV K x H1 k /\ Q (.bl (!k)) H1
theorem tru_keep {pins : List (Addr × Obj)} {s : Shared} {σ : Sg} {H : Hp} {x : V} {v : Value} {k : Bool} {Q : Bool -> Shared -> Prop} (I : Inv X pins σ H s) (r : RelV x v) (t : TruV X.K x H k) (h : ∀ s', Inv X pins σ H s' -> Q k s') : wpAny (model X.prog X.w) X.A (truthy v) Q X.xe s :=
  thn (tru_ok pins s σ H x v (fun b H' => b = k /\ H' = H) I r ⟨k, t, rfl, rfl⟩) fun b s' ⟨H', I', e1, e2⟩ => by subst e1; subst e2; exact h s' I'
theorem pe_andG {a b : PySem.Expr} {rest : List PySem.Expr} {pos : Pos} {ta tb : TE} (ha : PE X a ta) (hb : PE X (.BoolOp .And (b :: rest) pos) tb) : PE X (.BoolOp .And (a :: b :: rest) pos) (tAndG X.K ta tb) := by
  intro pins s σ H Q I h
  refine BoolOp_and (thn (ha pins s σ H _ I h) fun v s1 ⟨x, H1, I1, r1, k, t, q1⟩ => ?_)
  refine tru_keep I1 r1 t fun s2 I2 => ?_
  cases k with
  | true => exact hb pins s2 σ H1 Q I2 q1
  | false => exact ⟨x, H1, I2, r1, q1⟩
theorem pe_orG {a b : PySem.Expr} {rest : List PySem.Expr} {pos : Pos} {ta tb : TE} (ha : PE X a ta) (hb : PE X (.BoolOp .Or (b :: rest) pos) tb) : PE X (.BoolOp .Or (a :: b :: rest) pos) (tOrG X.K ta tb) := by
  intro pins s σ H Q I h
  refine BoolOp_or (thn (ha pins s σ H _ I h) fun v s1 ⟨x, H1, I1, r1, k, t, q1⟩ => ?_)
  refine tru_keep I1 r1 t fun s2 I2 => ?_
  cases k with
  | false => exact hb pins s2 σ H1 Q I2 q1
  | true => exact ⟨x, H1, I2, r1, q1⟩
theorem pe_notG {a : PySem.Expr} {pos : Pos} {ta : TE} (ha : PE X a ta) : PE X (.UnaryOp .Not a pos) (tNotG X.K ta) := by
  intro pins s σ H Q I h
  refine UnaryOp_ (thn (ha pins s σ H _ I h) fun v s1 ⟨x, H1, I1, r1, k, t, q1⟩ => ?_)
  exact not_of (tru_keep I1 r1 t fun s2 I2 => ⟨.bl (!k), H1, I2, rfl, q1⟩)
theorem pw_of {op : BoolOp} {vs : List PySem.Expr} {pos : Pos} {t : TT} (h : PT X (.BoolOp op vs pos) t) : PW X (.BoolOp op vs pos) t := fun wh pins s σ H Q I q => by
  have := h pins s σ H Q I q
  exact this
theorem star_one {e : PySem.Expr} (es : List PySem.Expr) (h : noStar e = true) : starEach (e :: es) X.env = (false, eval e X.env) :: starEach es X.env := by
  cases e <;> first | rfl | (cases h; done)
end
end Ng
end
section
namespace Ng
open PySem PySem.Spec PyProof.Rows L2
section
variable {X : Cx}
end
def Es.len : Es -> Nat
  | .nil => 0
  | .cons _ l => l.len + 1
section
variable {X : Cx}
end
end Ng
end
section
namespace Ng
open PySem PySem.Spec PyProof.Rows L2
def clStep (env : Env) (p : Str × NameKind) (cs : List (Str × Addr)) : List (Str × Addr) := if (p.2 == .free) = true then (match env.cells.lookup p.1 with | some c => (p.1, c) :: cs | none => cs) else cs
def clOf (scope : Scope) (env : Env) : List (Str × Addr) := scope.names.foldl (fun cs p => clStep env p cs) []
theorem forIn_pure {f : Str × NameKind -> List (Str × Addr) -> Sem (ForInStep (List (Str × Addr)))} {g : Str × NameKind -> List (Str × Addr) -> List (Str × Addr)} : ∀ (l : List (Str × NameKind)) (acc : List (Str × Addr)), (∀ p ∈ l, ∀ cs, f p cs = pure (.yield (g p cs))) -> forIn l acc f = pure (l.foldl (fun cs p => g p cs) acc)
  | [], acc, _ => rfl
  | p :: l, acc, h => by
    rw [List.forIn_cons, h p List.mem_cons_self]
    show (forIn l (g p acc) f) = _
    rw [forIn_pure l (g p acc) fun q hq => h q (List.mem_cons_of_mem _ hq)]
    rfl
theorem closure_is {scope : Scope} {env : Env} (h : ∀ p ∈ scope.names, p.2 = .free -> ∃ c, env.cells.lookup p.1 = some c) : closureFor scope env = pure (clOf scope env) := by
  simp only [closureFor]
  rw [forIn_pure (g := clStep env) scope.names [] (fun p hp cs => by
    obtain ⟨n, k⟩ := p
    cases hk : (k == NameKind.free) with
    | false => (simp only [hk, clStep, Bool.false_eq_true, if_false] <;> rfl)
    | true =>
      obtain ⟨c, hc⟩ := h (n, k) hp (by simpa using hk)
      (simp only [hk, clStep, if_true, hc, cellOf] <;> rfl))]
  rfl
theorem cl_mem {env : Env} : ∀ (l : List (Str × NameKind)) (acc : List (Str × Addr)), (∀ q ∈ acc, env.cells.lookup q.1 = some q.2) -> ∀ q ∈ l.foldl (fun cs p => clStep env p cs) acc, env.cells.lookup q.1 = some q.2
  | [], acc, h => h
  | p :: l, acc, h => cl_mem l (clStep env p acc) fun q hq => by
    unfold clStep at hq
    split at hq
    · split at hq
      · rename_i c hc
        rcases List.mem_cons.mp hq with rfl | hq
        · exact hc
        · exact h q hq
      · exact h q hq
    · exact h q hq
theorem cl_sub {env : Env} : ∀ (l : List (Str × NameKind)) (acc : List (Str × Addr)) (q : Str × Addr), q ∈ acc -> q ∈ l.foldl (fun cs p => clStep env p cs) acc
  | [], acc, q, h => h
  | p :: l, acc, q, h => cl_sub l (clStep env p acc) q (by
    unfold clStep
    split
    · split
      · exact List.mem_cons_of_mem _ h
      · exact h
    · exact h)
theorem cl_has {env : Env} : ∀ (l : List (Str × NameKind)) (acc : List (Str × Addr)) (n : Str) (c : Addr), (n, NameKind.free) ∈ l -> env.cells.lookup n = some c -> (n, c) ∈ l.foldl (fun cs p => clStep env p cs) acc
  | [], _, _, _, h, _ => by cases h
  | p :: l, acc, n, c, h, hc => by
    rcases List.mem_cons.mp h with rfl | h
    · refine cl_sub l (clStep env (n, NameKind.free) acc) (n, c) ?_
      unfold clStep
      rw [if_pos (by rfl)]
      simp only [hc]
      exact List.mem_cons_self
    · exact cl_has l _ n c h hc
theorem lookup_some_of_mem {α : Type} {n : Str} {c : α} : ∀ {l : List (Str × α)}, (n, c) ∈ l -> ∃ c', l.lookup n = some c'
  | [], h => by cases h
  | (m, d) :: l, h => by
    cases e : n == m with
    | true => exact ⟨d, by simp [List.lookup_cons, e]⟩
    | false =>
      rcases List.mem_cons.mp h with z | z
      · cases z; simp at e
      · obtain ⟨c', hc'⟩ := lookup_some_of_mem z
        exact ⟨c', by simp only [List.lookup_cons, e]; exact hc'⟩
theorem clOf_lookup {scope : Scope} {env : Env} {n : Str} {c : Addr} (h : (clOf scope env).lookup n = some c) : env.cells.lookup n = some c :=
  cl_mem scope.names [] (fun _ hq => by cases hq) (n, c) (PySem.mem_of_lookup h)
theorem clOf_has {scope : Scope} {env : Env} {n : Str} {c : Addr} (h : (n, NameKind.free) ∈ scope.names) (hc : env.cells.lookup n = some c) : (clOf scope env).lookup n = some c := by
  obtain ⟨c', hc'⟩ := lookup_some_of_mem (cl_has scope.names [] n c h hc)
  have := clOf_lookup hc'
  rw [hc] at this; cases this
  exact hc'
theorem relab_lookup {scope sc : Scope} {x : Str} {k' : NameKind} (h : (relab scope sc).names.lookup x = some k') : ∃ k, scope.names.lookup x = some k /\ (k' = k \/ (k = .free /\ k' = .cell)) := by
  unfold relab at h
  have go : ∀ (l : List (Str × NameKind)), (l.map fun (n, k) => if (k == .free && sc.kind == .function && sc.names.lookup n == some .cell) then (n, NameKind.cell) else (n, k)).lookup x = some k' -> ∃ k, l.lookup x = some k /\ (k' = k \/ (k = .free /\ k' = .cell)) := by
    intro l
    induction l with
    | nil => intro h; simp at h
    | cons p l ih =>
      intro h
      obtain ⟨n, k⟩ := p
      cases e : x == n with
      | true =>
        refine ⟨k, by simp [List.lookup_cons, e], ?_⟩
        simp only [List.map_cons] at h
        by_cases hc : (k == .free && sc.kind == .function && sc.names.lookup n == some .cell) = true
        · rw [if_pos hc] at h
          simp only [List.lookup_cons, e] at h
          simp only [Bool.and_eq_true, beq_iff_eq] at hc
          exact .inr ⟨hc.1.1, (Option.some.inj h).symm⟩
        · rw [if_neg hc] at h
          simp only [List.lookup_cons, e] at h
          exact .inl (Option.some.inj h).symm
      | false =>
        simp only [List.map_cons] at h
        have h' : (l.map fun (n, k) => if (k == .free && sc.kind == .function && sc.names.lookup n == some .cell) then (n, NameKind.cell) else (n, k)).lookup x = some k' := by
          by_cases hc : (k == .free && sc.kind == .function && sc.names.lookup n == some .cell) = true
          · rw [if_pos hc] at h; simp only [List.lookup_cons, e] at h; exact h
          · rw [if_neg hc] at h; simp only [List.lookup_cons, e] at h; exact h
        obtain ⟨k2, e2, e3⟩ := ih h'
        exact ⟨k2, by simp only [List.lookup_cons, e]; exact e2, e3⟩
  exact go scope.names h
theorem relab_cell {scope sc : Scope} {x : Str} (h : scope.names.lookup x = some .free) (hk : sc.kind = .function) (hc : sc.names.lookup x = some .cell) : (relab scope sc).names.lookup x = some .cell := by
  unfold relab
  have go : ∀ (l : List (Str × NameKind)), l.lookup x = some .free -> (l.map fun (n, k) => if (k == .free && sc.kind == .function && sc.names.lookup n == some .cell) then (n, NameKind.cell) else (n, k)).lookup x = some .cell := by
    intro l
    induction l with
    | nil => intro h; simp at h
    | cons p l ih =>
      intro h
      obtain ⟨n, k⟩ := p
      cases e : x == n with
      | true =>
        have ex : x = n := by simpa using e
        subst ex
        simp only [List.lookup_cons, e] at h
        cases h
        simp [List.map_cons, hk, hc]
      | false =>
        simp only [List.lookup_cons, e] at h
        simp only [List.map_cons]
        by_cases hc : (k == .free && sc.kind == .function && sc.names.lookup n == some .cell) = true
        · rw [if_pos hc]; simp only [List.lookup_cons, e]; exact ih h
        · rw [if_neg hc]; simp only [List.lookup_cons, e]; exact ih h
  exact go scope.names h
theorem nodupB_ok : ∀ {l : List Str}, nodupB l = true -> l.Nodup
  | [], _ => List.nodup_nil
  | x :: l, h => by
    have h' : (!l.contains x && nodupB l) = true := h
    simp only [Bool.and_eq_true, Bool.not_eq_true'] at h'
    refine List.nodup_cons.mpr ⟨fun hx => ?_, nodupB_ok h'.2⟩
    have := h'.1
    simp [hx] at this
structure ScOk (scope sc : Scope) : Prop where
  kind : scope.kind = .function
  out : sc.kind = .function
  nd : (scope.names.map (·.1)).Nodup
  loc : ∀ p ∈ scope.names, p.2 = .local -> scope.names.lookup p.1 = some .local
  free : ∀ p ∈ scope.names, p.2 = .free -> sc.names.lookup p.1 = some .cell
theorem scOk_of {scope sc : Scope} (h : scOk scope sc = true) : ScOk scope sc := by
  unfold scOk at h
  simp only [Bool.and_eq_true, beq_iff_eq, List.all_eq_true, Bool.or_eq_true, Bool.not_eq_true'] at h
  obtain ⟨⟨⟨h1, h2⟩, h0⟩, h3⟩ := h
  refine ⟨h1, h2, nodupB_ok h0, fun p hp e => ?_, fun p hp e => ?_⟩
  · rcases (h3 p hp).1 with z | z
    · rw [e] at z; simp at z
    · simpa using z
  · rcases (h3 p hp).2 with z | z
    · rw [e] at z; simp at z
    · simpa using z
theorem lookup_nd {α : Type} {x : Str} {k : α} : ∀ {l : List (Str × α)}, (l.map (·.1)).Nodup -> (x, k) ∈ l -> l.lookup x = some k
  | [], _, h => by cases h
  | (y, j) :: l, nd, h => by
    rw [List.map_cons, List.nodup_cons] at nd
    rcases List.mem_cons.mp h with e | h2
    · cases e; simp [List.lookup_cons]
    · have ne : (x == y) = false := by
        rw [beq_eq_false_iff_ne]
        rintro rfl
        exact nd.1 (List.mem_map.mpr ⟨(x, k), h2, rfl⟩)
      rw [List.lookup_cons, ne]
      exact lookup_nd nd.2 h2
theorem relab_own {scope : Scope} {env : Env} {x : Str} (h : scope.names.lookup x = some .cell) : (relabel scope env).names.lookup x = some .cell := by
  unfold relabel
  have go : ∀ (l : List (Str × NameKind)), l.lookup x = some .cell -> (l.map fun (n, k) => if (k == .free && env.scope.kind == .function && env.kindOf n == some .cell) then (n, NameKind.cell) else (n, k)).lookup x = some .cell := by
    intro l
    induction l with
    | nil => intro h; simp at h
    | cons p l ih =>
      intro h
      obtain ⟨n, k⟩ := p
      cases e : x == n with
      | true =>
        simp only [List.lookup_cons, e] at h
        cases h
        simp [List.map_cons, List.lookup_cons, e]
      | false =>
        simp only [List.lookup_cons, e] at h
        simp only [List.map_cons]
        by_cases hc : (k == .free && env.scope.kind == .function && env.kindOf n == some .cell) = true
        · rw [if_pos hc]; simp only [List.lookup_cons, e]; exact ih h
        · rw [if_neg hc]; simp only [List.lookup_cons, e]; exact ih h
  exact go scope.names h
theorem cellsFrom_app : ∀ (names : List (Str × NameKind)) (n : Nat) (acc : List (Str × Addr)), cellsFrom n names acc = cellsFrom n names [] ++ acc
  | [], _, _ => rfl
  | (x, k) :: r, n, acc => by
    unfold cellsFrom
    split
    · rw [cellsFrom_app r (n + 1) ((x, n) :: acc), cellsFrom_app r (n + 1) [(x, n)]]; simp
    · exact cellsFrom_app r n acc
theorem cellsFrom_mem : ∀ (names : List (Str × NameKind)) (n : Nat) (x : Str) (c : Addr), (x, c) ∈ cellsFrom n names [] -> (x, NameKind.cell) ∈ names
  | [], _, _, _, h => by cases h
  | (y, k) :: r, n, x, c, h => by
    unfold cellsFrom at h
    split at h
    · rename_i hk
      rw [cellsFrom_app] at h
      rcases List.mem_append.mp h with h | h
      · exact List.mem_cons_of_mem _ (cellsFrom_mem r _ x c h)
      · have e : (x, c) = (y, n) := by simpa using h
        cases e
        have hk' : k = .cell := by simpa using hk
        subst hk'
        exact List.mem_cons_self
    · exact List.mem_cons_of_mem _ (cellsFrom_mem r _ x c h)
def bcs (scope : Scope) (env : Env) (C : Addr) : List (Str × Addr) := cellsFrom (C + 1) scope.names (clOf scope env)
structure BCs (scope : Scope) (env : Env) (C : Addr) (h1 : Heap) : Prop where
  old : ∀ x, (x, NameKind.free) ∈ scope.names -> (bcs scope env C).lookup x = (clOf scope env).lookup x
  new : ∀ x, scope.names.lookup x = some .cell -> ∃ c, (bcs scope env C).lookup x = some c
  inv : ∀ x c, (bcs scope env C).lookup x = some c -> (clOf scope env).lookup x = some c \/ (C < c /\ h1.IsCell c none /\ ∀ y, (bcs scope env C).lookup y = some c -> C < c -> x = y)
  cellNew : ∀ x c, scope.names.lookup x = some .cell -> (bcs scope env C).lookup x = some c -> C < c
theorem bcs_ok {scope sc : Scope} {env : Env} {C : Addr} {h1 : Heap} (S : ScOk scope sc) (hlow : ∀ x c, env.cells.lookup x = some c -> c < C) (ok : CellsOk h1 (C + 1) (cellsFrom (C + 1) scope.names [])) : BCs scope env C h1 := by
  have spl : ∀ x, (bcs scope env C).lookup x = ((cellsFrom (C + 1) scope.names []).lookup x).or ((clOf scope env).lookup x) := fun x => by
    unfold bcs; rw [cellsFrom_app, List.lookup_append]
  have inv : ∀ x c, (bcs scope env C).lookup x = some c -> (cellsFrom (C + 1) scope.names []).lookup x = some c \/ ((cellsFrom (C + 1) scope.names []).lookup x = none /\ (clOf scope env).lookup x = some c) := fun x c e => by
    rw [spl] at e
    cases q : (cellsFrom (C + 1) scope.names []).lookup x with
    | none => rw [q] at e; exact .inr ⟨rfl, e⟩
    | some c' => rw [q] at e; exact .inl e
  refine ⟨fun x hx => ?_, fun x hx => ?_, fun x c e => ?_, fun x c hx e => ?_⟩
  · rw [spl]
    cases q : (cellsFrom (C + 1) scope.names []).lookup x with
    | none => rfl
    | some c =>
      have z := lookup_nd S.nd (cellsFrom_mem _ _ _ _ (PySem.mem_of_lookup q))
      rw [lookup_nd S.nd hx] at z; cases z
  · have q := PySem.W.cellsFrom_some scope.names (C + 1) [] (.inl hx)
    obtain ⟨c, hc⟩ := Option.isSome_iff_exists.mp q
    exact ⟨c, by rw [spl, hc]; rfl⟩
  · rcases inv x c e with q | ⟨_, q⟩
    · have m := ok.empty x c (PySem.mem_of_lookup q)
      refine .inr ⟨m.2, m.1, fun y ey _ => ?_⟩
      rcases inv y c ey with q' | ⟨_, q'⟩
      · exact name_of_addr ok.apart (PySem.mem_of_lookup q) (PySem.mem_of_lookup q')
      · exact absurd (hlow y c (clOf_lookup q')) (Nat.not_lt.mpr (Nat.le_of_lt m.2))
    · exact .inl q
  · rcases inv x c e with q | ⟨q0, q⟩
    · exact (ok.empty x c (PySem.mem_of_lookup q)).2
    · have q2 := PySem.W.cellsFrom_some scope.names (C + 1) [] (.inl hx)
      rw [q0] at q2; cases q2
def blkX (X : Cx) (N' : List Str) (scope : Scope) (C : Addr) (s3 : Shared) (H3 : Hp) (fp : List Addr) : Cx :=
  { X with N := N', s₀ := s3, H₀ := H3, env := compEnvC scope (bcs scope X.env C) C X.env, outer := X.stack, stack := X.stack, ex := fp, fn := fun x => scope.names.lookup x == some .cell, pn := [], xe := fun _ _ => False }
def blkS (N' : List Str) (cap : List Nat) (σ : Sg) : Sg := List.replicate (N'.length - cap.length) none ++ cap.map fun (i : Nat) => (match σ[i]? with | some x => x | none => none)
section
variable {X : Cx} {pins : List (Addr × Obj)} {σ : Sg} {H3 : Hp} {s3 : Shared} {N' : List Str} {scope : Scope} {fp : List Addr} {cap : List Nat}
theorem blk_start (I : Inv X pins σ H3 s3) (S : ScOk scope X.env.scope) (hcap : cap.length <= N'.length) (hN : (N'.drop (N'.length - cap.length)).map some = cap.map (fun (i : Nat) => X.N[i]?)) (hfr : ∀ x ∈ N'.drop (N'.length - cap.length), scope.names.lookup x = some .free)
    {h1 : Heap} {tk : Nat} {m : Str -> Option Value} (hns : h1.Ns s3.heap.objs.size m) (keep : ∀ b o, s3.heap.get? b = some o -> h1.get? b = some o) (B : BCs scope X.env s3.heap.objs.size h1)
    (hfp : ∀ b ∈ fp, FpOk X pins H3 b) (hob : ∀ b ∈ fp, b < s3.heap.objs.size) (hfb : ∀ b ∈ fp, ∀ o, X.base.get? b ≠ some o) : Inv (blkX X N' scope s3.heap.objs.size s3 H3 fp) [] (blkS N' cap σ) H3 { s3 with heap := h1, toks := tk } := by
  have stkN : ∀ b, b ≠ X.env.locals -> b ∉ X.fs -> b ∉ frs X.stack := fun b h1 h2 hb => (List.mem_cons.mp (I.stkSub b hb)).elim h1 h2
  have kd : X.env.scope.kind = .function := I.ok.kind
  have cellFree : ∀ x, (relab scope X.env.scope).names.lookup x = some .cell \/ (relab scope X.env.scope).names.lookup x = some .free -> (x, NameKind.free) ∈ scope.names \/ scope.names.lookup x = some .cell := fun x hx => by
    have : ∃ k', (k' = NameKind.cell \/ k' = .free) /\ (relab scope X.env.scope).names.lookup x = some k' := by
      rcases hx with h | h
      · exact ⟨_, .inl rfl, h⟩
      · exact ⟨_, .inr rfl, h⟩
    obtain ⟨k', hk', h⟩ := this
    obtain ⟨k, e1, e2⟩ := relab_lookup h
    have hm := PySem.mem_of_lookup e1
    rcases e2 with rfl | ⟨rfl, _⟩
    · rcases hk' with rfl | rfl
      · exact .inr e1
      · exact .inl hm
    · exact .inl hm
  have lowC : ∀ x c, X.env.cells.lookup x = some c -> c < s3.heap.objs.size := fun x c e => let ⟨_, q⟩ := I.cell x c e; q.lt
  have hasC : ∀ x, (x, NameKind.free) ∈ scope.names -> ∃ c, X.env.cells.lookup x = some c := fun x hx => I.ok.has x (.inl (S.free _ hx rfl))
  refine ⟨⟨I.ok.mod, by show (relabel scope X.env).kind = _; exact S.kind, I.ok.glob, I.ok.blt, Nat.le_refl _, fun x y c h1 h2 => ?_, fun x hx => ?_, fun x c h e => Nat.le_of_lt (B.cellNew x c (beq_iff_eq.mp h) e), I.ok.hd, I.ok.frames, .inl rfl, fun b hb => ⟨Nat.ne_of_lt (hob b hb), fun x c e => ?_⟩, I.bs, Nat.le_trans I.ok.bsz I.sz, fun b o e hb => hfb b hb o e, fun b hb => stkN b (hfp b hb).2.1 (hfp b hb).2.2.1, I.stack, I.stkFree⟩,
    rfl, I.bare, Un.kept keep, ⟨m, hns, fun i x v e1 e2 e3 => ?_⟩, fun x c e => ?_, I.hok.fresh (Nat.le_refl _), fun x c e => ?_, fun p hp => absurd (show p ∈ ([] : List (Addr × Obj)) from hp) (by simp), I.hok.kept keep, ?_⟩
  · rcases B.inv x c h1 with a | ⟨a1, _, a3⟩
    · rcases B.inv y c h2 with b | ⟨b1, _, _⟩
      · exact I.ok.inj x y c (clOf_lookup a) (clOf_lookup b)
      · exact absurd (lowC x c (clOf_lookup a)) (Nat.not_lt.mpr (Nat.le_of_lt b1))
    · exact a3 y h2 a1
  · rcases cellFree x hx with hf | hf
    · obtain ⟨c, hc⟩ := hasC x hf
      exact ⟨c, (B.old x hf).trans (clOf_has hf hc)⟩
    · exact B.new x hf
  · rcases B.inv x c e with a | ⟨a1, _, _⟩
    · exact (hfp b hb).2.2.2.2.1 x c (clOf_lookup a)
    · exact Nat.ne_of_gt (Nat.lt_trans (hob b hb) a1)
  · -- a captured name
    have hi : ¬ i < N'.length - cap.length := fun hi => by
      unfold blkS at e2
      rw [List.getElem?_append_left (by simpa using hi), List.getElem?_replicate] at e2
      split at e2 <;> cases e2
    have e1' : N'[i]? = some x := e1
    have hiN : i < N'.length := (List.getElem?_eq_some_iff.mp e1').1
    unfold blkS at e2
    rw [List.getElem?_append_right (by simpa using hi), List.length_replicate, List.getElem?_map] at e2
    have hd : (N'.drop (N'.length - cap.length))[i - (N'.length - cap.length)]? = some x := by
      rw [List.getElem?_drop]
      rw [show N'.length - cap.length + (i - (N'.length - cap.length)) = i by omega]
      exact e1'
    cases ec : cap[i - (N'.length - cap.length)]? with
    | none => rw [ec] at e2; cases e2
    | some j =>
      rw [ec] at e2
      have hj : X.N[j]? = some x := by
        have z := congrArg (fun l => l[i - (N'.length - cap.length)]?) hN
        simp only [List.getElem?_map, hd, ec, Option.map_some] at z
        exact (Option.some.inj z).symm
      have hσ : σ[j]? = some (some v) := by
        have e2' : (match σ[j]? with | some x => x | none => none) = some v := Option.some.inj e2
        cases q : σ[j]? with
        | none => rw [q] at e2'; cases e2'
        | some y => rw [q] at e2'; exact congrArg some e2'
      have hxf : scope.names.lookup x = some .free := hfr x (List.mem_of_getElem? hd)
      have hxc := S.free _ (PySem.mem_of_lookup hxf) rfl
      obtain ⟨m0, hn0, hl0⟩ := I.loc
      obtain ⟨u, ru, l0⟩ := hl0 j x v hj hσ (.inr (.inl hxc))
      refine ⟨u, ru, .inr ⟨.inl ?_, ?_⟩⟩
      · show (relabel scope X.env).names.lookup x = some .cell
        exact relab_cell (sc := X.env.scope) hxf kd hxc
      · rcases l0 with ⟨z, _⟩ | ⟨_, c, hc, o, ho, hd'⟩
        · have z' : X.env.scope.names.lookup x = some .local := z
          rw [hxc] at z'; cases z'
        · exact ⟨c, (B.old x (PySem.mem_of_lookup hxf)).trans (clOf_has (PySem.mem_of_lookup hxf) hc), o, keep c o ho, hd'⟩
  · rcases B.inv x c e with a | ⟨_, a2, _⟩
    · obtain ⟨v, o, ho, hd⟩ := I.cell x c (clOf_lookup a)
      exact ⟨v, o, keep c o ho, hd⟩
    · exact ⟨_, a2⟩
  · rcases B.inv x c e with a | ⟨a1, _, _⟩
    · exact I.freeC x c (clOf_lookup a)
    · exact I.hok.fresh (Nat.le_of_lt a1)
  · unfold blkS
    show _ = N'.length
    rw [List.length_append, List.length_replicate, List.length_map]
    omega
end
theorem wpAny_newBlockEnv {M : Model} {A : Around} {E : Value -> Shared -> Prop} {scope : Scope} {env : Env} {s : Shared} {Q : Env -> Shared -> Prop}
    (h : ∀ h1 : Heap, h1.Ns s.heap.objs.size (fun _ => none) -> (∀ b o, s.heap.get? b = some o -> h1.get? b = some o) -> CellsOk h1 (s.heap.objs.size + 1) (cellsFrom (s.heap.objs.size + 1) scope.names []) ->
      Q (newEnv scope s.heap.objs.size env.globals (bcs scope env s.heap.objs.size) env.qual none .none (some env) builtinsNs) { s with heap := h1 }) :
    wpAny M A (newFunctionEnv scope env.globals (clOf scope env) [] env.qual none .none (some env)) Q E s := by
  simp only [newFunctionEnv, Option.isSome_some, if_true]
  refine wpAny_bind (wpAny_alloc ?_)
  refine wpAny_bind (wpAny_layCells _ (fun name kind cells => by cases hkc : kind == NameKind.cell <;> simp [hkc]) _ _ _ _ ?_)
  have hsz : (s.heap.push { cls := .type "dict", data := .dict #[] }).objs.size = s.heap.objs.size + 1 := Heap.size_push ..
  have ok := cellsFrom_ok scope.names (s.heap.push { cls := .type "dict", data := .dict #[] }) (s.heap.objs.size + 1) [] ⟨fun _ _ hm => (nomatch hm), List.Pairwise.nil⟩ (by rw [hsz]; exact Nat.le_refl _)
  rw [hsz] at ok
  rw [show ({ s with heap := s.heap.push { cls := .type "dict", data := .dict #[] } } : Shared).heap.objs.size = s.heap.objs.size + 1 from hsz]
  refine wpAny_bind (wpAny_of_eq (List.forIn_nil ..) (wpAny_pure ?_))
  exact h _ ((Heap.Ns.new s.heap (.type "dict")).keeps (pushCells_keeps _ _)) (fun b o e => pushCells_keeps _ _ b o (Heap.get?_push_of_some _ e)) ok
def testsOf (ifs : List PySem.Expr) (env : Env) (b : Bool) : Sem Bool := forIn ifs b fun c r => if r = true then do let ok <- isTrue c env (eval c env); pure (ForInStep.yield ok) else pure (ForInStep.yield r)
theorem comp_loop {elt tg iter : PySem.Expr} {ifs : List PySem.Expr} {scope : Scope} {pos : Pos} {it acc : Value} {env : Env} {P : Program} {w : World} {A : Around} {R : Result -> Shared -> Prop} {s : Shared} (J : Nat -> Shared -> Prop)
    (turn : ∀ k s, J k s -> wpAny (model P w) A (pyNext it) (fun r s1 => match r with
      | none => R (.ok .next) s1
      | some v => wpAny (model P w) A (letOwnedTupleGo tg it v) (fun _ s2 => wpAny (model P w) A (assign tg env v) (fun _ s3 => wpAny (model P w) A (testsOf ifs env true) (fun ok s4 =>
          if ok = true then wpAny (model P w) A (eval elt env) (fun x s5 => wpAny (model P w) A (call (.builtin "list.append") [acc, x]) (fun _ s6 => ∃ k', k' < k /\ J k' s6) nev s5) nev s4
          else ∃ k', k' < k /\ J k' s4) nev s3) nev s2) nev s1) nev s)
    (k : Nat) (h : J k s) : codeAny (model P w) A (.compLoop (.ListComp elt [⟨tg, iter, ifs, 0⟩] scope pos) 0 it acc env) R s := by
  refine codeAny_loop (I := J) rfl (turn := fun k s hk => ?_) k h
  show wpAny _ A (Sem.onRaise (compTurn (.ListComp elt [⟨tg, iter, ifs, 0⟩] scope pos) 0 it acc env) (fun x => do noteFrame x env; theTreesLotGoes x)) _ _ s
  refine wpAny_noted ?_
  rw [compTurn_list]
  have no : ∀ {E : Value -> Shared -> Prop} (e : Value) (s : Shared), nev e s -> E e s := fun _ _ f => f.elim
  refine wpAny_bind (wpAny_standAt (wpAny_bind (wpAny_mono (turn k s hk) (fun r s1 q1 => ?_) no)))
  cases r with
  | none => exact wpAny_pure q1
  | some v =>
    refine wpAny_bind (wpAny_mono q1 (fun _ s2 q2 => wpAny_bind (wpAny_mono q2 (fun _ s3 q3 => wpAny_bind (wpAny_mono q3 (fun ok s4 q4 => ?_) no)) no)) no)
    cases ok with
    | false => exact wpAny_pure ⟨rfl, q4⟩
    | true => exact wpAny_bind (wpAny_bind (wpAny_mono q4 (fun x s5 q5 => wpAny_bind (wpAny_mono q5 (fun _ s6 q6 => wpAny_pure (wpAny_pure ⟨rfl, q6⟩)) no)) no))
end Ng
end
section
namespace Ng
open PySem PySem.Spec PyProof.Rows L2
def TDG (K : PySem.W.Frag) (t : Tg) : TG := fun v s H Q => ∃ m h r d r', Wd K m h H /\ RSt K m H r s /\ RD K m H d v /\ setT t d r = some r' /\ ∀ s', RSt K m H r' s' -> Q s' H
def TDB (K : PySem.W.Frag) (f : Ev -> Hh -> Rs Bool) : TT := fun s H Q => ∃ m r h b h', Wd K m h H /\ RSt K m H r s /\ f r h = .ok b h' /\ ∀ m' H', Gr K m H m' H' -> Wd K m' h' H' -> Q b H'
def PTs (X : Cx) (ifs : List PySem.Expr) (t : TT) : Prop := ∀ (pins : List (Addr × Obj)) (s : Shared) (σ : Sg) (H : Hp) (Q : Bool -> Hp -> Prop), Inv X pins σ H s -> t σ H Q -> wpAny (model X.prog X.w) X.A (testsOf ifs X.env true) (TP X pins σ Q) X.xe s
def Stp (K : PySem.W.Frag) (t : Tg) (cs : Ev -> Hh -> Rs Bool) (f : Ev -> Hh -> Rs D) (n0 : Nat) (h' : Hh) (J : It) (Lp : Nat -> Nat -> Ev -> Hh -> Prop) (i k : Nat) (r : Ev) (h : Hh) (m : List Addr) (H : Hp) : Prop :=
  (J.stop i H /\ h = h') \/ (J.go i H /\ ∃ d, (∀ x H2, J.yld i H x H2 -> Gr K m H m H2 /\ Wd K m h H2 /\ RD K m H2 d x) /\ ∃ r1, setT t d r = some r1 /\ ∃ b h1, cs r1 h = .ok b h1 /\
    if b = true then ∃ y h2 z h3, f r1 h1 = .ok y h2 /\ appD (.ref n0) y h2 = .ok z h3 /\ ∃ k', k' < k /\ Lp (i + 1) k' r1 h3 else ∃ k', k' < k /\ Lp (i + 1) k' r1 h1)
section
variable {X : Cx} {G : Gs} {ca : Nat -> Addr} {cl : Cl} {N' : List Str} {scope : Scope} {cap : List Nat} {tg elt iter : PySem.Expr} {ifs : List PySem.Expr} {pos : Pos} {t : Tg} {ft : Ev -> Hh -> Rs Bool} {fe : Ev -> Hh -> Rs D}
theorem blockE_rel {K : PySem.W.Frag} {m : List Addr} {H : Hp} {r : Ev} {σ : Sg} (st : RSt K m H r σ) : RSt K m H (blockE N' cap r) (blkS N' cap σ) := by
  refine ⟨by simp [blockE, blkS], fun i d e => ?_⟩
  unfold blockE at e
  unfold blkS
  by_cases hi : i < N'.length - cap.length
  · rw [List.getElem?_append_left (by simpa using hi), List.getElem?_replicate] at e
    split at e <;> cases e
  · rw [List.getElem?_append_right (by simpa using hi), List.length_replicate, List.getElem?_map] at e
    rw [List.getElem?_append_right (by simpa using hi), List.length_replicate, List.getElem?_map]
    cases ec : cap[i - (N'.length - cap.length)]? with
    | none => rw [ec] at e; cases e
    | some j =>
      rw [ec] at e
      have e' : capV r j = some d := Option.some.inj e
      have hr : r[j]? = some (some d) := by
        unfold capV at e'
        cases q : r[j]? with
        | none => rw [q] at e'; cases e'
        | some y => rw [q] at e'; exact congrArg some e'
      obtain ⟨v, hv, rv⟩ := st.2 j d hr
      refine ⟨v, ?_, rv⟩
      show some (match σ[j]? with | some x => x | none => none) = some (some v)
      rw [hv]
theorem comp_core {pins : List (Addr × Obj)} {σ : Sg} {H2 : Hp} {s2 : Shared} {J : It} {fp : List Addr} {it : Addr} {tn : Nat -> Heap -> Prop} {m2 : List Addr} {h2 h' : Hh} {r : Ev} (S : ScOk scope X.env.scope) (hcap : cap.length <= N'.length)
    (hN : (N'.drop (N'.length - cap.length)).map some = cap.map (fun (i : Nat) => X.N[i]?)) (hfr : ∀ x ∈ N'.drop (N'.length - cap.length), scope.names.lookup x = some .free) (calm : X.calm = true)
    (blk : ∀ (C : Addr) (s3 : Shared) (H3 : Hp) (fp : List Addr), PG (blkX X N' scope C s3 H3 fp) tg (TDG X.K t) /\ PTs (blkX X N' scope C s3 H3 fp) ifs (TDB X.K ft) /\ PE (blkX X N' scope C s3 H3 fp) elt (TDE X.K fe))
    (I : Inv X pins σ H2 s2) (T : Turn X.prog X.w X.K tg J fp it tn) (st : tn 0 s2.heap) (fok : ∀ b ∈ fp, FpOk X pins H2 b) (w2 : Wd X.K m2 h2 H2) (rst : RSt X.K m2 H2 r σ)
    (Lp : Nat -> Nat -> Ev -> Hh -> Prop) (k0 : Nat) (L0 : Lp 0 k0 (blockE N' cap r) (h2 ++ [.lst []])) (hst : ∀ i k r h m H, Gr X.K m2 H2 m H -> Wd X.K m h H -> Lp i k r h -> Stp X.K t ft fe h2.length h' J Lp i k r h m H)
    {Rr : Value -> Addr -> Result -> Shared -> Prop}
    (c : ∀ (acc C : Addr) (s1 : Shared) (H' : Hp) (m' : List Addr), Inv X pins σ H' s1 -> (∃ mm, s1.heap.Ns C mm) -> H' C = none -> C ≠ X.env.locals -> X.s₀.heap.objs.size <= C -> (∀ x a, X.env.cells.lookup x = some a -> a ≠ C) -> (∀ p ∈ X.pn ++ pins, p.1 ≠ C) -> Gr X.K m2 H2 m' H' -> Wd X.K m' h' H' -> RD X.K m' H' (.ref h2.length) (.ref acc) -> Rr (.ref acc) C (.ok .next) s1) :
    wpAny (model X.prog X.w) X.A (newList []) (fun acc s3 => wpAny (model X.prog X.w) X.A (newFunctionEnv scope X.env.globals (clOf scope X.env) [] X.env.qual none .none (some X.env)) (fun cenv s4 =>
      codeAny (model X.prog X.w) X.A (.compStart (.ListComp elt [⟨tg, iter, ifs, 0⟩] scope pos) 0 (.ref it) acc { cenv with scope := relabel scope X.env }) (Rr acc cenv.locals) s4) X.xe s3) X.xe s2 := by
  have fob : ∀ b ∈ fp, b < s2.heap.objs.size := fun b hb => let ⟨o, e, _⟩ := T.obj 0 _ st b hb; Heap.lt_size e
  have ffb : ∀ b ∈ fp, ∀ o, X.base.get? b ≠ some o := fun b hb o e => by
    rcases (fok b hb).2.2.2.1 with z | z
    · exact I.ok.noex b o e z
    · exact absurd (Nat.lt_of_lt_of_le (Heap.lt_size (I.ok.bs b o e).1) z) (Nat.lt_irrefl _)
  have hacc0 : H2 s2.heap.objs.size = none := I.hok.fresh (Nat.le_refl _)
  refine wpAny_newObj_type (wpAny_newBlockEnv (fun h1 hns keep cok => ?_))
  dsimp only at hns keep cok ⊢
  obtain ⟨w3, g3⟩ := w2.lstNew (ds := []) (vs := []) hacc0 .nil
  have I3 : Inv X pins σ (upd H2 s2.heap.objs.size (.lst [])) { s2 with heap := s2.heap.push { cls := .type "list", dict := none, data := .seq ([] : List Value).toArray } } :=
    I.laid (t' := s2.toks) (fun b u e => Heap.get?_push_of_some _ e) (Nat.le_refl _) ⟨Nat.zero_le _, [], 0, .nil, Heap.get?_push_size _ rfl⟩
  have fok3 : ∀ b ∈ fp, FpOk X pins (upd H2 s2.heap.objs.size (.lst [])) b := fun b hb => ⟨by rw [upd_ne (Nat.ne_of_lt (fob b hb))]; exact (fok b hb).1, (fok b hb).2⟩
  have st3 : tn 0 h1 := T.keep _ _ _ st fun b hb o e => keep b o (Heap.get?_push_of_some _ e)
  have B := bcs_ok (env := X.env) S (fun x c e => let ⟨_, q⟩ := I3.cell x c e; q.lt) cok
  have I4 := blk_start (N' := N') (scope := scope) (fp := fp) (cap := cap) I3 S hcap hN hfr (h1 := h1) (tk := s2.toks) hns keep B fok3 (fun b hb => by
    show b < (s2.heap.push _).objs.size
    rw [Heap.size_push]; exact Nat.lt_succ_of_lt (fob b hb)) ffb
  have hsz : (s2.heap.push { cls := .type "list", dict := none, data := .seq ([] : List Value).toArray }).objs.size = s2.heap.objs.size + 1 := Heap.size_push ..
  generalize hs3 : ({ s2 with heap := s2.heap.push { cls := .type "list", dict := none, data := .seq ([] : List Value).toArray } } : Shared) = s3 at I3 I4
  have eh3 : s2.heap.push { cls := .type "list", dict := none, data := .seq ([] : List Value).toArray } = s3.heap := by rw [<- hs3]
  rw [eh3] at hns keep cok B hsz ⊢
  generalize hH3 : upd H2 s2.heap.objs.size (.lst []) = H3 at I3 I4 w3 g3 fok3
  obtain ⟨bG, bT, bE⟩ := blk s3.heap.objs.size s3 H3 fp
  have ha : (m2 ++ [s2.heap.objs.size])[h2.length]? = some s2.heap.objs.size := by rw [<- w2.len]; simp
  have stkN : ∀ b, b ≠ X.env.locals -> b ∉ X.fs -> b ∉ frs X.stack := fun b h1 h2 hb => (List.mem_cons.mp (I3.stkSub b hb)).elim h1 h2
  have fokB : ∀ {H : Hp}, (∀ b ∈ fp, H b = none) -> ∀ b ∈ fp, FpOk (blkX X N' scope s3.heap.objs.size s3 H3 fp) [] H b := fun hn b hb =>
    ⟨hn b hb, Nat.ne_of_lt (by rw [hsz]; exact Nat.lt_succ_of_lt (fob b hb)), stkN b (fok b hb).2.1 (fok b hb).2.2.1, .inl hb, fun x c e => (B.inv x c e).elim (fun a => (fok b hb).2.2.2.2.1 x c (clOf_lookup a)) (fun a => Nat.ne_of_gt (Nat.lt_trans (by rw [hsz]; exact Nat.lt_succ_of_lt (fob b hb)) a.1)), fun p hp => absurd (show p ∈ ([] : List (Addr × Obj)) from hp) (by simp)⟩
  have hw : X.w = X.w := rfl
  have loop : ∀ s4 : Shared, s4 = { s3 with heap := h1, toks := s2.toks } -> codeAny (model X.prog X.w) X.A (.compLoop (.ListComp elt [⟨tg, iter, ifs, 0⟩] scope pos) 0 (.ref it) (.ref s2.heap.objs.size) (compEnvC scope (bcs scope X.env s3.heap.objs.size) s3.heap.objs.size X.env)) (Rr (.ref s2.heap.objs.size) s3.heap.objs.size) s4 := by
    rintro s4 rfl
    refine comp_loop (fun k s => ∃ i σ' H' m r h, Inv (blkX X N' scope s3.heap.objs.size s3 H3 fp) [] σ' H' s /\ tn i s.heap /\ (∀ b ∈ fp, H' b = none) /\ Gr X.K (m2 ++ [s2.heap.objs.size]) H3 m H' /\ Wd X.K m h H' /\ RSt X.K m H' r σ' /\ Lp i k r h) ?_ k0
      ⟨0, _, H3, _, _, _, I4, st3, fun b hb => (fok3 b hb).1, .refl, w3, blockE_rel (rst.mono g3), L0⟩
    rintro k s ⟨i, σ', H', m, r', h, I', st', fr', g', w', rst', L⟩
    rcases hst i k r' h m H' (g3.trans g') w' L with ⟨stop, rfl⟩ | ⟨go, d, hy, r1, er, b, hb1, eb, rest⟩
    · refine thn (T.done (blkX X N' scope s3.heap.objs.size s3 H3 fp) rfl rfl rfl calm i [] s σ' H' nev I' (fokB fr') st' stop) fun res s1 ⟨hr, I1⟩ => ?_
      subst hr
      obtain ⟨mm, hn1, _⟩ := id I1.loc
      obtain ⟨hp1, gg, dr, tk, os⟩ := s1
      obtain rfl : os = s3.os := I1.os
      have IX : Inv X pins σ H' { s3 with heap := hp1, gens := gg, drawn := dr, toks := tk } := I3.call (ch := fp) I1.base I1.hok I1.bare fun b hb => ⟨(fok3 b hb).2.2.2.1, (fok3 b hb).2.1, (fok3 b hb).2.2.2.2.1, (fok3 b hb).2.2.2.2.2⟩
      exact c _ _ _ H' m IX ⟨mm, hn1⟩ I1.free (Nat.ne_of_gt I3.lt) I3.sz (fun x a e => by
        obtain ⟨v, q⟩ := I3.cell x a e
        exact Nat.ne_of_lt q.lt) (fun p hp => Nat.ne_of_lt (Heap.lt_size (I3.pin p hp).1)) (g3.trans g') w' (.ref (g'.pre _ _ ha))
    · refine thn (T.item (blkX X N' scope s3.heap.objs.size s3 H3 fp) rfl rfl rfl calm i [] s σ' H' nev I' (fokB fr') st' go) fun res s1 ⟨u, hr, q1⟩ => ?_
      subst hr
      refine thn q1 fun _ s5 ⟨x, H5, I5, rx, yl, st5, fr5⟩ => ?_
      obtain ⟨gy, wy, rd⟩ := hy x H5 yl
      have I5' := I5.pinned (fokB fr5) (T.obj _ _ st5)
      have again : ∀ {σ7 : Sg} {H7 : Hp} {s7 : Shared} {m7 : List Addr} {r7 : Ev} {h7 : Hh}, Inv (blkX X N' scope s3.heap.objs.size s3 H3 fp) ([] ++ pinsAt fp s5.heap) σ7 H7 s7 -> Gr X.K m H5 m7 H7 -> Wd X.K m7 h7 H7 -> RSt X.K m7 H7 r7 σ7 -> (∃ k', k' < k /\ Lp (i + 1) k' r7 h7) ->
          ∃ k', k' < k /\ ∃ i σ' H' m r h, Inv (blkX X N' scope s3.heap.objs.size s3 H3 fp) [] σ' H' s7 /\ tn i s7.heap /\ (∀ b ∈ fp, H' b = none) /\ Gr X.K (m2 ++ [s2.heap.objs.size]) H3 m H' /\ Wd X.K m h H' /\ RSt X.K m H' r σ' /\ Lp i k' r h := fun {σ7 H7 s7 m7 r7 h7} I7 g7 w7 st7 ⟨k', hk, L7⟩ => by
        have pn : ∀ b ∈ fp, ∀ o, s5.heap.get? b = some o -> s7.heap.get? b = some o /\ H7 b = none := fun b hb o e => let z := I7.pin (b, o) (List.mem_append_right _ (List.mem_append_right _ (mem_pinsAt hb e))); ⟨z.1, z.2.1⟩
        exact ⟨k', hk, i + 1, σ7, H7, m7, r7, h7, I7.unpinned, T.keep _ _ _ st5 fun b hb o e => (pn b hb o e).1, fun b hb => let ⟨o, e, _⟩ := T.obj _ _ st5 b hb; (pn b hb o e).2, g'.trans (gy.trans g7), w7, st7, L7⟩
      refine thn (bG _ s5 σ' H5 x u (fun σ2 H6 => H6 = H5 /\ RSt X.K m H5 r1 σ2) I5' rx ⟨m, h, r', d, r1, wy, rst'.mono gy, rd, er, fun s' z => ⟨rfl, z⟩⟩) fun _ s6 ⟨σ6, H6, I6, eH6, st6⟩ => ?_
      subst eH6
      refine thn (bT _ s6 σ6 H6 (fun b' H7 => b' = b /\ ∃ m7, Gr X.K m H6 m7 H7 /\ Wd X.K m7 hb1 H7) I6 ⟨m, r1, h, b, hb1, wy, st6, eb, fun m' H' g w => ⟨rfl, m', g, w⟩⟩) fun b' s7 ⟨H7, I7, e7, m7, g7, w7⟩ => ?_
      subst e7
      cases b' with
      | false =>
        rw [if_neg Bool.false_ne_true] at rest ⊢
        exact again I7 g7 w7 (st6.mono g7) rest
      | true =>
        rw [if_pos rfl] at rest ⊢
        obtain ⟨y, h8, z, h9, ey, ea, rest⟩ := rest
        refine thn (bE _ s7 σ6 H7 (fun v H8 => ∃ m8, Gr X.K m7 H7 m8 H8 /\ Wd X.K m8 h8 H8 /\ RD X.K m8 H8 y v) I7 ⟨m7, r1, hb1, y, h8, w7, st6.mono g7, ey, fun m' v H' g w rv => ⟨m', g, w, rv⟩⟩) fun yv s8 ⟨v, H8, I8, rv, m8, g8, w8, rdy⟩ => ?_
        have ha8 : m8[h2.length]? = some s2.heap.objs.size := g8.pre _ _ (g7.pre _ _ (gy.pre _ _ (g'.pre _ _ ha)))
        simp only [appD] at ea
        split at ea <;> first | (cases ea; done) | skip
        rename_i l el
        split at ea <;> first | (cases ea; done) | skip
        rename_i hlen
        cases ea
        obtain ⟨vs, hv, rvs⟩ : ∃ vs, H8 s2.heap.objs.size = some (.lst vs) /\ RDs X.K m8 H8 l vs := w8.ob _ _ _ el ha8
        obtain ⟨_, w9, g9⟩ := w8.lstSet el ha8 (rvs.append (.cons rdy .nil))
        refine thn (mt_append (X := blkX X N' scope s3.heap.objs.size s3 H3 fp) _ s8 σ6 H8 (.ref s2.heap.objs.size) [v] (.ref s2.heap.objs.size) [yv] (fun _ H9 => H9 = upd H8 s2.heap.objs.size (.lst (vs ++ [v]))) I8 rfl (.cons rv .nil) ⟨_, vs, v, rfl, rfl, hv, by rw [<- rvs.length]; exact Nat.lt_of_lt_of_le hlen (by decide), rfl⟩) fun _ s9 ⟨_, H9, I9, _, e9⟩ => ?_
        subst e9
        exact again I9 ((g7.trans g8).trans g9) w9 (st6.mono ((g7.trans g8).trans g9)) rest
  have es : ({ s2 with heap := h1, toks := s2.toks } : Shared) = { s3 with heap := h1, toks := s2.toks } := by subst hs3; rfl
  exact codeAny_compStart_list (loop _ es) (T.self X.A 0 _ _ _ st3 (loop _ es))
end
end Ng
end
section
namespace Ng
open PySem PySem.Spec PyProof.Rows L2
theorem _root_.L2.PG.wk {X : Cx} {e : PySem.Expr} {t t' : TG} (h : PG X e t) (i : ∀ v s H Q, t' v s H Q -> t v s H Q) : PG X e t' := fun pins s σ H v u Q I r q => h pins s σ H v u Q I r (i _ _ _ _ q)
def gAll (is : List Nat) : TGs := fun vs s H Q => ∃ (K : PySem.W.Frag) (m : List Addr) (r : Ev) (ds : List D), RSt K m H r s /\ RDs K m H ds vs /\ ds.length = is.length /\ ∀ s', RSt K m H (setAll is ds r) s' -> Q s' H
section
variable {X : Cx} {N : List Str} {sc : Scope} {G : Gs} {ca : Nat -> Addr} {cl : Cl} {K : PySem.W.Frag}
theorem pgsP (ok : PySem.Expr -> Nat -> Bool) (hok : ∀ e i, ok e i = true -> ∃ x pos, e = .Name x pos /\ PG X (.Name x pos) (gName i)) : ∀ {is : List Nat} {es : List PySem.Expr}, is.length = es.length -> (∀ (j : Nat) i e, is[j]? = some i -> es[j]? = some e -> ok e i = true) -> PGs X es (gAll is) /\ (assignEach es X.env).length = is.length /\ (assignEach es X.env).findIdx? (·.1) = none
  | [], [], _, _ => ⟨fun pins s σ H vs us Q I rv ⟨K, m, r, ds, st, rd, hl, c⟩ => by
      cases ds with
      | cons => cases hl
      | nil =>
        cases rd
        exact pgs_nil pins s σ H [] us Q I rv ⟨rfl, c _ st⟩, rfl, rfl⟩
  | i :: is, e :: es, hl, h => by
    obtain ⟨x, pos, rfl, pn⟩ := hok e i (h 0 i e rfl rfl)
    obtain ⟨ih, i2, i3⟩ := pgsP ok hok (is := is) (es := es) (by simpa using hl) fun j i e e1 e2 => h (j + 1) i e (by simpa using e1) (by simpa using e2)
    refine ⟨fun pins s σ H vs us Q I rv ⟨K, m, r, ds, st, rd, hl, c⟩ => ?_, ?_, ?_⟩
    · cases ds with
      | nil => cases hl
      | cons d ds =>
        cases rd with
        | cons r1 rd =>
          exact pgs_cons pn ih rfl pins s σ H _ us Q I rv ⟨_, _, rfl, K, m, _, ds, st.set i r1, rd, by simpa using hl, c⟩
    · show (assignEach es X.env).length + 1 = is.length + 1
      rw [i2]
    · show ((false, assign (.Name x pos) X.env) :: assignEach es X.env).findIdx? (·.1) = none
      rw [List.findIdx?_cons]
      simp [i3]
  | [], _ :: _, hl, _ => by simp at hl
  | _ :: _, [], hl, _ => by simp at hl
theorem setT_tn {i j k : Nat} {d : D} {r r' : Ev} (e : setT (.tn i j k) d r = some r') : ∃ a b c, d = .tup [.tup [a, b], c] /\ r' = ((r.set i (some a)).set j (some b)).set k (some c) := by
  generalize et : Tg.tn i j k = t at e
  unfold setT at e
  split at e <;> first | (cases et; done) | (cases e; done) | skip
  cases et; cases e
  exact ⟨_, _, _, rfl, rfl⟩
theorem pgT_of (ok : PySem.Expr -> Nat -> Bool) (hok : ∀ e i, ok e i = true -> ∃ x pos, e = .Name x pos /\ PG X (.Name x pos) (gName i)) (calm : X.calm = true) {t : Tg} {tg : PySem.Expr}
    (h : match t with | .nm i => ok tg i = true | .tp l => (∃ es k pos, tg = .Tuple es k pos /\ l.length = es.length /\ ∀ (j : Nat) i e, l[j]? = some i -> es[j]? = some e -> ok e i = true) | .tn i j k => ∃ e1 e2 e3 k1 p1 k2 p2, tg = .Tuple [.Tuple [e1, e2] k1 p1, e3] k2 p2 /\ ok e1 i = true /\ ok e2 j = true /\ ok e3 k = true) : PG X tg (TDG X.K t) := by
  cases t with
  | nm i =>
    obtain ⟨x, pos, rfl, pn⟩ := hok tg i h
    refine pn.wk fun v s H Q ⟨m, hh, r, d, r', w, st, rd, e, c⟩ => ?_
    cases e
    exact c _ (st.set i rd)
  | tp l =>
    obtain ⟨es, k, pos, rfl, hl, h⟩ := h
    obtain ⟨p1, p2, p3⟩ := pgsP ok hok hl h
    refine (pg_tup calm p1 p2 p3).wk fun v s H Q ⟨m, hh, r, d, r', w, st, rd, e, c⟩ => ?_
    cases rd <;> first | (cases e; done) | skip
    rename_i a ds vs hq q _
    simp only [setT] at e
    split at e
    · rename_i hl
      cases e
      exact ⟨a, vs, rfl, hq, by rw [<- q.length]; exact hl, X.K, m, r, ds, st, q, hl, c⟩
    · cases e
  | tn i j k =>
    obtain ⟨e1, e2, e3, k1, p1, k2, p2, rfl, o1, o2, o3⟩ := h
    obtain ⟨x1, q1, rfl, g1⟩ := hok e1 i o1
    obtain ⟨x2, q2, rfl, g2⟩ := hok e2 j o2
    obtain ⟨x3, q3, rfl, g3⟩ := hok e3 k o3
    have inn : PG X (.Tuple [.Name x1 q1, .Name x2 q2] k1 p1) _ := pg_tup calm (pgs_cons g1 (pgs_cons g2 pgs_nil rfl) rfl) rfl rfl
    refine (pg_tup calm (pgs_cons inn (pgs_cons g3 pgs_nil rfl) rfl) rfl rfl).wk fun v s H Q ⟨m, hh, r, d, r', w, st, rd, e, c⟩ => ?_
    obtain ⟨b1, b2, d2, rfl, rfl⟩ := setT_tn e
    cases rd with
    | tup hq q =>
    cases q with
    | cons r1 q =>
      cases q with
      | cons r2 q =>
        cases q
        cases r1 with
        | tup h1 t1 =>
          cases t1 with
          | cons s1 t1 =>
            cases t1 with
            | cons s2 t1 =>
              cases t1
              exact ⟨_, _, rfl, hq, rfl, _, _, rfl, _, _, rfl, h1, rfl, _, _, rfl, _, _, rfl, rfl, _, _, rfl, rfl, c _ (((st.set i s1).set j s2).set k r2)⟩
theorem chkNs'_of : ∀ {l : List Nat} {es : List PySem.Expr}, chkNs' N sc l es = true -> l.length = es.length /\ ∀ (j : Nat) i e, l[j]? = some i -> es[j]? = some e -> chkT' N sc (.nm i) e = true
  | [], [], _ => ⟨rfl, fun j i e h => by simp at h⟩
  | i :: is, e :: es, h => by
    cases e <;> first | exact absurd (show false = true from h) Bool.false_ne_true | skip
    rename_i x pos
    have h' : (N[i]? == some x && locB sc x && chkNs' N sc is es) = true := h
    rw [Bool.and_eq_true] at h'
    obtain ⟨i1, i2⟩ := chkNs'_of h'.2
    refine ⟨by simp [i1], fun j i' e' e1 e2 => ?_⟩
    cases j with
    | zero =>
      simp at e1 e2
      subst e1; subst e2
      exact h'.1
    | succ j => exact i2 j i' e' (by simpa using e1) (by simpa using e2)
  | [], _ :: _, h => absurd (show false = true from h) Bool.false_ne_true
  | _ :: _, [], h => absurd (show false = true from h) Bool.false_ne_true
theorem tn_of {scope : Scope} {i j k : Nat} {tg : PySem.Expr} (h : chkT' N scope (.tn i j k) tg = true) : ∃ e1 e2 e3 k1 p1 k2 p2, tg = .Tuple [.Tuple [e1, e2] k1 p1, e3] k2 p2 /\ chkT' N scope (.nm i) e1 = true /\ chkT' N scope (.nm j) e2 = true /\ chkT' N scope (.nm k) e3 = true := by
  generalize et : Tg.tn i j k = t at h
  unfold chkT' at h
  split at h <;> first | (cases et; done) | (cases h; done) | skip
  cases et
  rw [Bool.and_eq_true, Bool.and_eq_true] at h
  exact ⟨_, _, _, _, _, _, _, rfl, h.1.1, h.1.2, h.2⟩
abbrev LocOk (X : Cx) (scope : Scope) : Prop := ∀ x, locB scope x = true -> Loc X.env.scope x /\ (X.fn x = true \/ X.env.scope.names.lookup x = some .local)
theorem pgT' {scope : Scope} (xo : XOk X N sc) (lo : LocOk X scope) {t : Tg} {tg : PySem.Expr} (h : chkT' N scope t tg = true) : PG X tg (TDG X.K t) := by
  refine pgT_of (fun e i => chkT' N scope (.nm i) e) (fun e i he => ?_) xo.calm ?_
  · cases e <;> first | exact absurd (show false = true from he) Bool.false_ne_true | skip
    rename_i x pos
    have h' : (N[i]? == some x && locB scope x) = true := he
    simp only [Bool.and_eq_true, beq_iff_eq] at h'
    obtain ⟨l1, l2⟩ := lo x h'.2
    exact ⟨x, pos, rfl, pg_name xo.nd (by rw [xo.n]; exact h'.1) l1 l2⟩
  · cases t with
    | nm i => exact h
    | tp l =>
      cases tg <;> first | exact absurd (show false = true from h) Bool.false_ne_true | skip
      rename_i es k pos
      obtain ⟨h1, h2⟩ := chkNs'_of (show chkNs' N scope l es = true from h)
      exact ⟨es, k, pos, rfl, h1, h2⟩
    | tn i j k => exact tn_of h
section
variable {t : Tg} {ft : Ev -> Hh -> Rs Bool} {fe : Ev -> Hh -> Rs D} {n0 : Nat} {h' : Hh} {J : It} {m2 : List Addr} {H2 : Hp} {r0 : Ev} {h0 : Hh}
abbrev Turns (K : PySem.W.Frag) (t : Tg) (ft : Ev -> Hh -> Rs Bool) (fe : Ev -> Hh -> Rs D) (n0 : Nat) (h' : Hh) (J : It) (m2 : List Addr) (H2 : Hp) (r0 : Ev) (h0 : Hh) : Prop := ∃ (Lp : Nat -> Nat -> Ev -> Hh -> Prop) (k0 : Nat), Lp 0 k0 r0 h0 /\ ∀ i k r h m H, Gr K m2 H2 m H -> Wd K m h H -> Lp i k r h -> Stp K t ft fe n0 h' J Lp i k r h m H
theorem turns_static {l : List D} (e : compS t ft fe n0 l r0 h0 = .ok () h') (hgo : ∀ (i : Nat) d m H, Gr K m2 H2 m H -> l[i]? = some d -> J.go i H /\ ∀ x H', J.yld i H x H' -> H' = H /\ RD K m H d x) (hstop : ∀ (i : Nat) m H, Gr K m2 H2 m H -> l.length <= i -> J.stop i H) : Turns K t ft fe n0 h' J m2 H2 r0 h0 := by
  refine ⟨fun i k r h => k = l.length - i /\ compS t ft fe n0 (l.drop i) r h = .ok () h', l.length, ⟨by simp, e⟩, fun i k r h m H g w ⟨hk, e⟩ => ?_⟩
  by_cases hi : i < l.length
  · have ed : l[i]? = some l[i] := List.getElem?_eq_getElem hi
    obtain ⟨a, b⟩ := hgo i _ m H g ed
    rw [List.drop_eq_getElem_cons hi] at e
    simp only [compS] at e
    split at e
    · cases e
    · rename_i r1 er
      obtain ⟨bb, h1, e1, e⟩ := Rs.bind_ok e
      refine .inr ⟨a, _, fun x H2 y => by obtain ⟨eH, rd⟩ := b x H2 y; subst eH; exact ⟨.refl, w, rd⟩, r1, er, bb, h1, e1, ?_⟩
      cases bb with
      | true =>
        rw [if_pos rfl] at e ⊢
        obtain ⟨y, h3, e3, e⟩ := Rs.bind_ok e
        obtain ⟨z, h4, e4, e⟩ := Rs.bind_ok e
        exact ⟨y, h3, z, h4, e3, e4, _, by omega, rfl, e⟩
      | false =>
        rw [if_neg Bool.false_ne_true] at e ⊢
        exact ⟨_, by omega, rfl, e⟩
  · rw [List.drop_eq_nil_of_le (by omega)] at e
    cases e
    exact .inl ⟨hstop i m H g (by omega), rfl⟩
theorem turns_tup {a : Addr} {l : List D} {vs : List V} (hq : SqT K H2 a vs) (q : RDs K m2 H2 l vs) (e : compS t ft fe n0 l r0 h0 = .ok () h') : Turns K t ft fe n0 h' (Itt K a) m2 H2 r0 h0 :=
  turns_static e (fun i d m H g ed => by
    obtain ⟨v, hv, rv⟩ := q.get ed
    exact ⟨⟨vs, v, g.tup _ _ hq, hv⟩, fun x H' y => by
      obtain ⟨eH, y⟩ := y
      have := y vs (g.tup _ _ hq)
      rw [hv] at this; cases this
      exact ⟨eH, rv.mono g⟩⟩) fun i m H g hi => ⟨vs, g.tup _ _ hq, by rw [<- q.length]; exact hi⟩
theorem turns_rng {lo hi : Int} (e : compS t ft fe n0 (rngD lo hi) r0 h0 = .ok () h') : Turns K t ft fe n0 h' (Itr lo (hi - lo).toNat) m2 H2 r0 h0 := by
  have hl : (rngD lo hi).length = (hi - lo).toNat := by unfold rngD; simp
  refine turns_static e (fun i d m H g ed => ?_) fun i m H g h => by rw [hl] at h; exact h
  have hi' : i < (hi - lo).toNat := by rw [<- hl]; exact (List.getElem?_eq_some_iff.mp ed).1
  have hd : (rngD lo hi)[i]? = some (D.int (lo + i)) := by
    unfold rngD
    rw [List.getElem?_map, List.getElem?_range hi']
    rfl
  rw [hd] at ed; cases ed
  exact ⟨hi', fun x H' y => ⟨y.1, by rw [y.2]; exact .int _⟩⟩
theorem turns_lst {a : Addr} {n k0 : Nat} (ha : m2[n]? = some a) (e : compI t ft fe n0 n k0 0 r0 h0 = .ok () h') : Turns K t ft fe n0 h' (Itl K a) m2 H2 r0 h0 := by
  refine ⟨fun i k r h => compI t ft fe n0 n k i r h = .ok () h', k0, e, fun i k r h m H g w e => ?_⟩
  cases k with
  | zero => cases e
  | succ k =>
    simp only [compI] at e
    split at e
    · cases e
    · rename_i l el
      obtain ⟨a', vs, ha', hq, q⟩ := w.lst el
      rw [g.pre _ _ ha] at ha'; cases ha'
      split at e
      · rename_i en
        cases e
        exact .inl ⟨⟨vs, hq, by rw [<- q.length]; exact List.getElem?_eq_none_iff.mp en⟩, rfl⟩
      · rename_i d ed
        obtain ⟨v, hv, rv⟩ := q.get ed
        split at e
        · cases e
        · rename_i r1 er
          obtain ⟨bb, h1, e1, e⟩ := Rs.bind_ok e
          refine .inr ⟨⟨vs, v, hq, hv⟩, d, fun x H' y => ?_, r1, er, bb, h1, e1, ?_⟩
          · obtain ⟨eH, y⟩ := y
            have := y vs hq
            rw [hv] at this; cases this
            subst eH
            exact ⟨.refl, w, rv⟩
          · cases bb with
            | true =>
              rw [if_pos rfl] at e ⊢
              obtain ⟨y, h3, e3, e⟩ := Rs.bind_ok e
              obtain ⟨z, h4, e4, e⟩ := Rs.bind_ok e
              exact ⟨y, h3, z, h4, e3, e4, k, Nat.lt_succ_self _, e⟩
            | false =>
              rw [if_neg Bool.false_ne_true] at e ⊢
              exact ⟨k, Nat.lt_succ_self _, e⟩
end
theorem comp_pe {N' : List Str} {scope : Scope} {cap : List Nat} {tg elt iter : PySem.Expr} {ifs : List PySem.Expr} {pos : Pos} {t : Tg} {ft : Ev -> Hh -> Rs Bool} {fe : Ev -> Hh -> Rs D} {f : Ev -> Hh -> Rs D} (xo : XOk X N sc) (S : ScOk scope sc) (hcap : cap.length <= N'.length)
    (hN : (N'.drop (N'.length - cap.length)).map some = cap.map (fun (i : Nat) => N[i]?)) (hfr : ∀ x ∈ N'.drop (N'.length - cap.length), scope.names.lookup x = some .free)
    (blk : ∀ (C : Addr) (s3 : Shared) (H3 : Hp) (fp : List Addr), PG (blkX X N' scope C s3 H3 fp) tg (TDG X.K t) /\ PTs (blkX X N' scope C s3 H3 fp) ifs (TDB X.K ft) /\ PE (blkX X N' scope C s3 H3 fp) elt (TDE X.K fe)) (hset : noSet iter = true)
    (hi : ∀ (pins : List (Addr × Obj)) (s : Shared) (σ : Sg) (H : Hp) (m : List Addr) (r : Ev) (h : Hh) (d : D) (h' : Hh), Inv X pins σ H s -> Wd X.K m h H -> RSt X.K m H r σ -> f r h = .ok d h' -> ∃ h1 : Hh, d = .ref h1.length /\ wpAny (model X.prog X.w) X.A (eval iter X.env) (fun v s1 => wpAny (model X.prog X.w) X.A (pyIter v)
      (PIE X pins σ tg fun J H2 => ∃ (m2 : List Addr) (h2 : Hh), h2.length = h1.length /\ Gr X.K m H m2 H2 /\ Wd X.K m2 h2 H2 /\ Turns X.K t ft fe h2.length h' J m2 H2 (blockE N' cap r) (h2 ++ [.lst []])) X.xe s1) X.xe s) :
    PE X (.ListComp elt [⟨tg, iter, ifs, 0⟩] scope pos) (TDE X.K f) := by
  intro pins s σ H Q I ⟨m, r, h, d, h', w, st, e, c⟩
  obtain ⟨h1, rfl, hw⟩ := hi pins s σ H m r h d h' I w st e
  rw [eval_ListComp]
  have S' : ScOk scope X.env.scope := by rw [xo.s]; exact S
  refine wpAny_comprehension_free (use := none) rfl (fun z => by cases iter <;> first | rfl | (cases hset; done)) (closure_is fun p hp e => I.ok.has p.1 (.inl (S'.free p hp e))) S.kind S.loc ?_
  refine thn hw fun v s1 q1 => thn q1 fun itv s2 q2 => ?_
  obtain ⟨it, fp, tn, J, H2, rfl, I2, T, st2, fok, m2, h2, eh2, g2, w2, Lp, k0, L0, hst⟩ := q2
  refine comp_core (Rr := fun acc C => compPost (model X.prog X.w) X.A X.xe none (EP X pins σ Q) acc C) S' hcap (by rw [xo.n]; exact hN) hfr xo.calm blk I2 T st2 fok w2 (st.mono g2) Lp k0 L0 hst fun acc C s1 H' m' I1 ⟨mm, hn⟩ hC hL hz hc hp g' w' rv => ?_
  rw [eh2] at rv
  refine ⟨mm, hn, fun hh hsb => ⟨.ref acc, H', I1.turned (fun b o hb e => hsb.extBut b o hb e) hC (Ne.symm (Ne.symm hL)) (.inr hz) hc hp, rfl, c m' _ H' (g2.trans g') w' rv⟩⟩
theorem comp_ps {N' : List Str} {scope : Scope} {cap : List Nat} {tg elt iter : PySem.Expr} {ifs : List PySem.Expr} {pos spos py : Pos} {y : Str} {i : Nat} {t : Tg} {ft : Ev -> Hh -> Rs Bool} {fe : Ev -> Hh -> Rs D} {f : Ev -> Hh -> Rs D} (xo : XOk X N sc) (S : ScOk scope sc) (hcap : cap.length <= N'.length)
    (hN : (N'.drop (N'.length - cap.length)).map some = cap.map (fun (i : Nat) => N[i]?)) (hfr : ∀ x ∈ N'.drop (N'.length - cap.length), scope.names.lookup x = some .free)
    (blk : ∀ (C : Addr) (s3 : Shared) (H3 : Hp) (fp : List Addr), PG (blkX X N' scope C s3 H3 fp) tg (TDG X.K t) /\ PTs (blkX X N' scope C s3 H3 fp) ifs (TDB X.K ft) /\ PE (blkX X N' scope C s3 H3 fp) elt (TDE X.K fe)) (hset : noSet iter = true)
    (hi : ∀ (pins : List (Addr × Obj)) (s : Shared) (σ : Sg) (H : Hp) (m : List Addr) (r : Ev) (h : Hh) (d : D) (h' : Hh), Inv X pins σ H s -> Wd X.K m h H -> RSt X.K m H r σ -> f r h = .ok d h' -> ∃ h1 : Hh, d = .ref h1.length /\ wpAny (model X.prog X.w) X.A (eval iter X.env) (fun v s1 => wpAny (model X.prog X.w) X.A (pyIter v)
      (PIE X pins σ tg fun J H2 => ∃ (m2 : List Addr) (h2 : Hh), h2.length = h1.length /\ Gr X.K m H m2 H2 /\ Wd X.K m2 h2 H2 /\ Turns X.K t ft fe h2.length h' J m2 H2 (blockE N' cap r) (h2 ++ [.lst []])) X.xe s1) X.xe s)
    (hy : N[i]? = some y) (hl : sc.names.lookup y = some .local) (hsw : swapsWith (.ListComp elt [⟨tg, iter, ifs, 0⟩] scope pos) (some (.Name y py)) spos.line X.env = pure true) :
    PS X (.Assign [.Name y py] (.ListComp elt [⟨tg, iter, ifs, 0⟩] scope pos) spos) (tAsg (TDE X.K f) (gName i)) := by
  intro pins s σ H Z I ⟨m, r, h, d, h', w, st, e, c⟩
  obtain ⟨h1, rfl, hw⟩ := hi pins s σ H m r h d h' I w st e
  have S' : ScOk scope X.env.scope := by rw [xo.s]; exact S
  rw [exec_Assign_Name_used _ _ _ _ hsw]
  refine wpAny_bind (wpAny_standAt (wpAny_bind ?_))
  show wpAny _ X.A (do let _ <- comprehension (.ListComp elt [⟨tg, iter, ifs, 0⟩] scope pos) scope X.env _ (newList []) false (eval iter X.env) (some (assign (.Name y py) X.env))) _ _ s
  refine wpAny_bind (thn (wpAny_comprehension_free (use := some (assign (.Name y py) X.env)) (Q := fun _ s' => SP X pins Z .next s') rfl (fun z => by cases iter <;> first | rfl | (cases hset; done)) (closure_is fun p hp e => I.ok.has p.1 (.inl (S'.free p hp e))) S.kind S.loc ?_) fun _ s' q => wpAny_pure (wpAny_pure q))
  refine thn hw fun v s1 q1 => thn q1 fun itv s2 q2 => ?_
  obtain ⟨it, fp, tn, J, H2, rfl, I2, T, st2, fok, m2, h2, eh2, g2, w2, Lp, k0, L0, hst⟩ := q2
  refine comp_core (Rr := fun acc C => compPost (model X.prog X.w) X.A X.xe (some (assign (.Name y py) X.env)) (fun _ s' => SP X pins Z .next s') acc C) S' hcap (by rw [xo.n]; exact hN) hfr xo.calm blk I2 T st2 fok w2 (st.mono g2) Lp k0 L0 hst fun acc C s1 H' m' I1 ⟨mm, hn⟩ hC hL hz hc hp g' w' rv => ?_
  rw [eh2] at rv
  show wpAny _ X.A (assign (.Name y py) X.env (.ref acc)) _ _ s1
  have hyl : X.env.kindOf y = some .local := by show X.env.scope.names.lookup y = _; rw [xo.s]; exact hl
  refine wpAny_assign_Name (store_ok2 (i := i) (v := .ref acc) I1 xo.nd (by rw [xo.n]; exact hy) (.inl (by rw [xo.s]; exact hl)) rfl (fun s5 I5 ⟨a, hsa, hq⟩ => ?_) (.inr (by rw [xo.s]; exact hl)))
  have ea : a ≠ C := by
    rcases hq with rfl | hq
    · exact fun z => hL z.symm
    · exact hc _ _ hq
  refine ⟨mm, ?_, fun hh hsb => ⟨_, H', I5.turned (fun b o hb e => hsb.extBut b o hb e) hC hL (.inr hz) hc hp, c m' _ H' (g2.trans g') w' rv⟩⟩
  obtain ⟨o, es, ep, e1, e2⟩ := hn
  exact ⟨o, es, ep, hsa.extBut C o (Ne.symm ea) e1, e2⟩
end
end Ng
end
section
namespace Ng
open PySem PySem.Spec PyProof.Rows L2
section
variable {X : Cx} {N : List Str} {sc : Scope} {G : Gs} {ca : Nat -> Addr} {cl : Cl}
theorem blk_xo {N' : List Str} {scope : Scope} (xo : XOk X N sc) (nd : N'.Nodup) (C : Addr) (s3 : Shared) (H3 : Hp) (fp : List Addr) : XOk (blkX X N' scope C s3 H3 fp) N' (relab scope sc) :=
  ⟨rfl, by rw [<- xo.s]; rfl, xo.calm, nd, xo.room, xo.rng, PassesOwn.never⟩
theorem blk_loc {N' : List Str} {scope : Scope} (S : ScOk scope X.env.scope) (C : Addr) (s3 : Shared) (H3 : Hp) (fp : List Addr) : LocOk (blkX X N' scope C s3 H3 fp) scope := fun x hx => by
  rcases locB_ok hx with h | h
  · have z : (relabel scope X.env).names.lookup x = some .local := lookup_relabel_local h
    exact ⟨.inl z, .inr z⟩
  · have z : (relabel scope X.env).names.lookup x = some .cell := relab_own h
    refine ⟨.inr z, .inl ?_⟩
    show (scope.names.lookup x == some .cell) = true
    rw [h]; rfl
theorem blk_go {N' : List Str} {scope : Scope} (go : GOk X G ca cl) (C : Addr) (s3 : Shared) (H3 : Hp) (fp : List Addr) : GOk (blkX X N' scope C s3 H3 fp) G ca cl := ⟨go.fn, go.cst, go.blt, go.ty, go.exc, go.sub, go.nsub, go.verr, ⟨go.c.att, go.c.meth, go.c.new⟩⟩
end
end Ng
end
section
namespace Ng
open PySem PySem.Spec PyProof.Rows L2
abbrev Emit := Sem PySem.Fin -> Sem PySem.Fin
section
variable {Y : Cx} {tg e : PySem.Expr} {kx vx : PySem.Expr} {gens : List Comprehension} {scope : Scope} {pos : Pos} {t : Tg} {emit : Emit} {fb : Ev -> Hh -> Rs Ev} {n0 acc dep : Nat} {ip : Pos} {it : Addr} {J : It} {fp : List Addr} {tn : Nat -> Heap -> Prop} {m2 : List Addr} {H2 : Hp} {End : Ev -> Hh -> Prop} {R : Result -> Shared -> Prop} {pins : List (Addr × Obj)}
end
section
variable {Y : Cx} {kx vx iter2 : PySem.Expr} {fk fv fi : Ev -> Hh -> Rs D} {n0 acc : Nat}
end
section
variable {Y : Cx} {kx vx tg1 iter1 tg2 iter2 : PySem.Expr} {scope : Scope} {pos : Pos} {t2 : Tg} {fk fv fi : Ev -> Hh -> Rs D} {n0 acc : Nat}
end
section
variable {X : Cx} {N' : List Str} {scope : Scope} {cap : List Nat} {kx vx tg1 iter1 tg2 iter2 : PySem.Expr} {pos : Pos} {t1 t2 : Tg} {fi fk fv : Ev -> Hh -> Rs D}
end
end Ng
end
section
namespace Ng
open PySem PySem.Spec PyProof.Rows L2
section
variable {X : Cx} {pins : List (Addr × Obj)} {σ : Sg} {H : Hp} {s : Shared}
end
end Ng
end
section
namespace Ng
open PySem PySem.Spec PyProof.Rows L2
theorem boot_ty (t : Ty) : bootBuiltins (Str.ofString t.nm) = some (.type t.nm) := by cases t <;> decide +kernel
theorem ty_dbg (t : Ty) : (Str.ofString t.nm == ("__debug__" : Str)) = false /\ Str.ofString t.nm ≠ "__name__" := by cases t <;> decide +kernel
theorem boot_blt (f : Blt) : bootBuiltins f.nm = some f.val := by cases f <;> decide +kernel
theorem blt_dbg (f : Blt) : (f.nm == ("__debug__" : Str)) = false /\ f.nm ≠ "__name__" := by cases f <;> decide +kernel
section
variable {X : Cx} {N : List Str} {sc : Scope} {G : Gs} {ca : Nat -> Addr} {cl : Cl}
theorem TDE.one {K : PySem.W.Frag} {fa f : Ev -> Hh -> Rs D} {k : Ev -> D -> Hh -> Rs D} {s : Sg} {H : Hp} {Q R : VK} (hf : ∀ r h, f r h = (fa r h).bind (k r)) (q : TDE K f s H Q)
    (c : ∀ (m m2 : List Addr) (r : Ev) (d : D) (h2 h' : Hh) (H2 : Hp) (dx : D) (x : V), RSt K m H r s -> Gr K m H m2 H2 -> Wd K m2 h2 H2 -> RSt K m2 H2 r s -> RD K m2 H2 dx x -> k r dx h2 = .ok d h' -> (∀ m' v H', Gr K m2 H2 m' H' -> Wd K m' h' H' -> RD K m' H' d v -> Q v H') -> R x H2) : TDE K fa s H R := by
  obtain ⟨m, r, h, d, h', w, st, e, cc⟩ := q
  rw [hf] at e
  obtain ⟨dx, h1, e1, e⟩ := Rs.bind_ok e
  exact ⟨m, r, h, dx, h1, w, st, e1, fun m1 x H1 g1 w1 rx => c m m1 r d h1 h' H1 dx x st g1 w1 (st.mono g1) rx e fun m' v H' g => cc m' v H' (g1.trans g)⟩
end
def SE (N : List Str) (sc : Scope) (G : Gs) (c : E) (e : PySem.Expr) : Prop := ∀ {X : Cx} {ca : Nat -> Addr} {cl : Cl}, XOk X N sc -> GOk X G ca cl -> PE X e (TDE X.K (ev G cl c)) /\ PT X e (TDT X.K (ev G cl c))
def SAs (N : List Str) (sc : Scope) (G : Gs) (l : Es) (es : List PySem.Expr) : Prop := es.all noStar = true /\ ∀ {X : Cx} {ca : Nat -> Addr} {cl : Cl}, XOk X N sc -> GOk X G ca cl -> PA X es (TDA X.K (evs G cl l))
def SBs (N : List Str) (sc : Scope) (G : Gs) (l : Es) (es : List PySem.Expr) : Prop := ∀ {X : Cx} {ca : Nat -> Addr} {cl : Cl}, XOk X N sc -> GOk X G ca cl -> PTs X es (TDB X.K (evt G cl l))
theorem back_no {X : Cx} (pos : Pos) : ∀ {es : List PySem.Expr}, es.all noStar = true -> (backTo pos (starEach es X.env)).any (·.1) = false
  | [], _ => rfl
  | e :: es, h => by
    rw [List.all_cons, Bool.and_eq_true] at h
    rw [star_one es h.1]
    have ih := back_no (X := X) pos (es := es) h.2
    exact (show (false || (backTo pos (starEach es X.env)).any (·.1)) = false by rw [ih]; rfl)
section
variable {N : List Str} {sc : Scope} {G : Gs}
theorem dE_var {i : Nat} {x : Str} {pos : Pos} (h1 : N[i]? = some x) (h : (visB sc x && noDbg x) = true) : SE N sc G (.var i) (.Name x pos) := fun {X ca cl} xo go => by
  rw [Bool.and_eq_true] at h
  obtain ⟨h2, h3⟩ := h
  obtain ⟨d1, d2, d3⟩ := noDbg_ok h3
  have p : PE X (.Name x pos) (TDE X.K (ev G cl (.var i))) := (pv i (by rw [xo.n]; exact h1) (by rw [xo.s]; exact visB_ok h2) d1 d2).wk fun s H Q ⟨m, r, hh, d, h', w, st, e1, c⟩ => by
    simp only [ev] at e1
    split at e1
    · rename_i d' ed
      cases e1
      obtain ⟨v, hv, rv⟩ := st.2 i _ ed
      exact ⟨v, hv, c m v H Gr.refl w rv⟩
    · cases e1
  exact ⟨p, tOf p fun _ => rfl⟩
theorem dE_int {i : Int} {j : Nat} {pos : Pos} : SE N sc G (.int i) (.Constant (.int i) j pos) := fun {X ca cl} xo go => by
  have p : PE X (.Constant (.int i) j pos) (TDE X.K (ev G cl (.int i))) := (pe_int).wk fun s H Q ⟨m, r, hh, d, h', w, st, e1, c⟩ => by
    cases e1
    exact c m _ H Gr.refl w (.int i)
  exact ⟨p, tOf p fun _ => rfl⟩
theorem dE_bl {b : Bool} {j : Nat} {pos : Pos} : SE N sc G (.bl b) (.Constant (.bool b) j pos) := fun {X ca cl} xo go => by
  have p : PE X (.Constant (.bool b) j pos) (TDE X.K (ev G cl (.bl b))) := (pe_bl).wk fun s H Q ⟨m, r, hh, d, h', w, st, e1, c⟩ => by
    cases e1
    exact c m _ H Gr.refl w (.bl b)
  exact ⟨p, tOf p fun _ => rfl⟩
theorem dE_non {j : Nat} {pos : Pos} : SE N sc G .non (.Constant .none j pos) := fun {X ca cl} xo go => by
  have p : PE X (.Constant .none j pos) (TDE X.K (ev G cl .non)) := (pe_non).wk fun s H Q ⟨m, r, hh, d, h', w, st, e1, c⟩ => by
    cases e1
    exact c m _ H Gr.refl w .non
  exact ⟨p, tOf p fun _ => rfl⟩
theorem dE_str {x : Str} {j : Nat} {pos : Pos} : SE N sc G (.str x) (.Constant (.str x) j pos) := fun {X ca cl} xo go => by
  have p : PE X (.Constant (.str x) j pos) (TDE X.K (ev G cl (.str x))) := (pe_str).wk fun s H Q ⟨m, r, hh, d, h', w, st, e1, c⟩ => by
    cases e1
    exact c m _ H Gr.refl w (.str x)
  exact ⟨p, tOf p fun _ => rfl⟩
theorem dE_gc {g : Nat} {x : Str} {d0 : D} {pos : Pos} (q : G.csts[g]? = some (x, d0)) (h : (glB sc x && noDbg x) = true) : SE N sc G (.gc g) (.Name x pos) := fun {X ca cl} xo go => by
  rw [Bool.and_eq_true] at h
  obtain ⟨h2, h3⟩ := h
  obtain ⟨d1, d2, d3⟩ := noDbg_ok h3
  obtain ⟨v, u, hm, rv, rd⟩ := go.cst g x d0 q
  have p : PE X (.Name x pos) (TDE X.K (ev G cl (.gc g))) := (pe_glob (glB_ok xo h2) hm rv d1).wk fun s H Q ⟨m, r, hh, d, h', w, st, e1, c⟩ => by
    simp only [ev, q] at e1
    cases e1
    exact c m _ H Gr.refl w (rd m H)
  exact ⟨p, tOf p fun _ => rfl⟩
theorem dE_ty {t : Ty} {pos : Pos} (hg : glB sc (Str.ofString t.nm) = true) : SE N sc G (.ty t) (.Name (Str.ofString t.nm) pos) := fun {X ca cl} xo go => by
  have p : PE X (.Name (Str.ofString t.nm) pos) (TDE X.K (ev G cl (.ty t))) := (pe_bltn (v := .ty t.nm) (glB_ok xo hg) (go.ty t) (boot_ty t) rfl (ty_dbg t).2 (ty_dbg t).1).wk fun s H Q ⟨m, r, hh, d, h', w, st, e1, c⟩ => by
    cases e1
    exact c m _ H Gr.refl w (.ty _)
  exact ⟨p, tOf p fun _ => rfl⟩
theorem dE_bin {op : Bop} {a b : E} {x y : PySem.Expr} {pos : Pos} (h_a : SE N sc G a x) (h_b : SE N sc G b y) : SE N sc G (.bin op a b) (.BinOp x op.op y pos) := fun {X ca cl} xo go => by
  have p : PE X (.BinOp x op.op y pos) (TDE X.K (ev G cl (.bin op a b))) := (pe_op (opBin op) (h_a xo go).1 (h_b xo go).1).wk (TDE.op fun r h => by simp only [ev])
  exact ⟨p, tOf p fun _ => rfl⟩
theorem dE_cmp {op : Cop} {a b : E} {x y : PySem.Expr} {pos : Pos} (hm : behindInMarks op.op y = false) (h_a : SE N sc G a x) (h_b : SE N sc G b y) : SE N sc G (.cmp op a b) (.Compare x [op.op] [y] pos) := fun {X ca cl} xo go => by
  refine ⟨(pe_cmpR (opCmp xo.room op) ((h_a xo go).1) ((h_b xo go).1) hm).wk (TDE.op fun r h => by simp only [ev]), ?_⟩
  refine (pt_cmpR (opCmp xo.room op) ((h_a xo go).1) ((h_b xo go).1) hm).wk fun s H Q ⟨m, r, hh, d, h', k, w, st, e1, ek, c⟩ => ?_
  refine TDE.op (f := ev G cl (.cmp op a b)) (k := cmpD op) (fun r h => by simp only [ev]) s H _ ⟨m, r, hh, d, h', w, st, e1, fun m' v H' g w' rd => ?_⟩
  have e1' := e1
  simp only [ev] at e1'
  obtain ⟨_, _, _, e1'⟩ := Rs.bind_ok e1'
  obtain ⟨_, _, _, e1'⟩ := Rs.bind_ok e1'
  obtain ⟨k', rfl⟩ := cmpD_bl e1'
  cases rd
  have ek' : k' = k := Option.some.inj ek
  subst ek'
  exact ⟨k', rfl, c m' H' g w'⟩
theorem dE_and2 {a b : E} {x : PySem.Expr} {v : PySem.Expr} {vs : List PySem.Expr} {pos : Pos} (h_a : SE N sc G a x) (h_b : SE N sc G b (.BoolOp .And (v :: vs) pos)) : SE N sc G (.and a b) (.BoolOp .And (x :: v :: vs) pos) := fun {X ca cl} xo go => by
  have hb := h_b xo go
  refine ⟨(pe_andG ((h_a xo go).1) hb.1).wk fun s H Q q => ?_, (pw_and ((h_a xo go).2) (pw_of hb.2)).pt.wk fun s H Q q => ?_⟩
  · refine TDE.one (fun _ _ => rfl) q fun m m2 r d h2 h' H2 dx v st g w2 st2 rx e c => ?_
    split at e
    · rename_i et
      exact ⟨true, truRel w2 rx et, iteT (⟨m2, r, h2, d, h', w2, st2, e, c⟩)⟩
    · rename_i et
      cases e
      exact ⟨false, truRel w2 rx et, iteF (c m2 v H2 Gr.refl w2 rx)⟩
    · cases e
  · obtain ⟨m, r, hh, d, h', k, w, st, e1, ek, c⟩ := q
    simp only [ev] at e1
    obtain ⟨dx, h1, e0, e1⟩ := Rs.bind_ok e1
    split at e1
    · rename_i et
      exact ⟨m, r, hh, dx, h1, true, w, st, e0, et, fun m' H' g w' => iteT (⟨m', r, h1, d, h', k, w', st.mono g, e1, ek, fun m2 H2 g2 => c m2 H2 (g.trans g2)⟩)⟩
    · rename_i et
      cases e1
      rw [et] at ek
      cases ek
      exact ⟨m, r, hh, _, _, false, w, st, e0, et, fun m' H' g w' => iteF (c m' H' g w')⟩
    · cases e1
theorem dE_and {a b : E} {x y : PySem.Expr} {pos : Pos} (h_a : SE N sc G a x) (h_b : SE N sc G b y) : SE N sc G (.and a b) (.BoolOp .And [x, y] pos) :=
  dE_and2 h_a fun {X ca cl} xo go => ⟨pe_one (h_b xo go).1, (pw_and1 (h_b xo go).2).pt⟩
theorem dE_or2 {a b : E} {x : PySem.Expr} {v : PySem.Expr} {vs : List PySem.Expr} {pos : Pos} (h_a : SE N sc G a x) (h_b : SE N sc G b (.BoolOp .Or (v :: vs) pos)) : SE N sc G (.or a b) (.BoolOp .Or (x :: v :: vs) pos) := fun {X ca cl} xo go => by
  have hb := h_b xo go
  refine ⟨(pe_orG ((h_a xo go).1) hb.1).wk fun s H Q q => ?_, (pw_or ((h_a xo go).2) (pw_of hb.2)).pt.wk fun s H Q q => ?_⟩
  · refine TDE.one (fun _ _ => rfl) q fun m m2 r d h2 h' H2 dx v st g w2 st2 rx e c => ?_
    split at e
    · rename_i et
      cases e
      exact ⟨true, truRel w2 rx et, iteT (c m2 v H2 Gr.refl w2 rx)⟩
    · rename_i et
      exact ⟨false, truRel w2 rx et, iteF (⟨m2, r, h2, d, h', w2, st2, e, c⟩)⟩
    · cases e
  · obtain ⟨m, r, hh, d, h', k, w, st, e1, ek, c⟩ := q
    simp only [ev] at e1
    obtain ⟨dx, h1, e0, e1⟩ := Rs.bind_ok e1
    split at e1
    · rename_i et
      cases e1
      rw [et] at ek
      cases ek
      exact ⟨m, r, hh, _, _, true, w, st, e0, et, fun m' H' g w' => iteT (c m' H' g w')⟩
    · rename_i et
      exact ⟨m, r, hh, dx, h1, false, w, st, e0, et, fun m' H' g w' => iteF (⟨m', r, h1, d, h', k, w', st.mono g, e1, ek, fun m2 H2 g2 => c m2 H2 (g.trans g2)⟩)⟩
    · cases e1
theorem dE_or {a b : E} {x y : PySem.Expr} {pos : Pos} (h_a : SE N sc G a x) (h_b : SE N sc G b y) : SE N sc G (.or a b) (.BoolOp .Or [x, y] pos) :=
  dE_or2 h_a fun {X ca cl} xo go => ⟨pe_one (h_b xo go).1, (pw_or1 (h_b xo go).2).pt⟩
theorem dE_not {a : E} {x : PySem.Expr} {pos : Pos} (h_a : SE N sc G a x) : SE N sc G (.not a) (.UnaryOp .Not x pos) := fun {X ca cl} xo go => by
  refine ⟨(pe_notG ((h_a xo go).1)).wk fun s H Q q => ?_, (pt_not ((h_a xo go).2)).wk fun s H Q q => ?_⟩
  · refine TDE.one (fun _ _ => rfl) q fun m m2 r d h2 h' H2 dx v st g w2 st2 rx e c => ?_
    split at e
    · rename_i k et
      cases e
      exact ⟨k, truRel w2 rx et, c m2 _ H2 Gr.refl w2 (.bl _)⟩
    · cases e
  · obtain ⟨m, r, hh, d, h', k, w, st, e1, ek, c⟩ := q
    simp only [ev] at e1
    obtain ⟨dx, h1, e0, e1⟩ := Rs.bind_ok e1
    split at e1
    · rename_i k' et
      cases e1
      have : (!k') = k := Option.some.inj ek
      subst this
      exact ⟨m, r, hh, dx, h', k', w, st, e0, et, c⟩
    · cases e1
theorem dE_ite {cc a b : E} {z x y : PySem.Expr} {pos : Pos} (h_cc : SE N sc G cc z) (h_a : SE N sc G a x) (h_b : SE N sc G b y) : SE N sc G (.ite cc a b) (.IfExp z x y pos) := fun {X ca cl} xo go => by
  refine ⟨(pe_ifExp (h_cc xo go).2 (h_a xo go).1 (h_b xo go).1).wk fun s H Q ⟨m, r, hh, d, h', w, st, e1, c⟩ => ?_, ?_⟩
  · simp only [ev] at e1
    obtain ⟨dx, h1, e0, e1⟩ := Rs.bind_ok e1
    split at e1
    · rename_i et
      exact ⟨m, r, hh, dx, h1, true, w, st, e0, et, fun m' H' g w' => iteT (⟨m', r, h1, d, h', w', st.mono g, e1, fun m2 v H2 g2 => c m2 v H2 (g.trans g2)⟩)⟩
    · rename_i et
      exact ⟨m, r, hh, dx, h1, false, w, st, e0, et, fun m' H' g w' => iteF (⟨m', r, h1, d, h', w', st.mono g, e1, fun m2 v H2 g2 => c m2 v H2 (g.trans g2)⟩)⟩
    · cases e1
  · intro pins s σ H Q I ⟨m, r, hh, d, h', k, w, st, e1, ek, c⟩
    simp only [ev] at e1
    obtain ⟨dx, h1, e0, e1⟩ := Rs.bind_ok e1
    have hz' := (h_cc xo go).2
    have hx' := (h_a xo go).2
    have hy' := (h_b xo go).2
    show wpAny _ _ (do if <- isTrue z X.env (eval z X.env) then isTrue x X.env (eval x X.env) else isTrue y X.env (eval y X.env)) _ _ _
    split at e1
    · rename_i et
      refine wpAny_bind (thn (hz' pins s σ H (fun kb H1 => kb = true /\ TDT X.K (ev G cl a) σ H1 Q) I ⟨m, r, hh, dx, h1, true, w, st, e0, et, fun m' H' g w' => ⟨rfl, m', r, h1, d, h', k, w', st.mono g, e1, ek, fun m2 H2 g2 => c m2 H2 (g.trans g2)⟩⟩) fun kb s1 ⟨H1, I1, eb, q1⟩ => ?_)
      subst eb
      exact hx' pins s1 σ H1 Q I1 q1
    · rename_i et
      refine wpAny_bind (thn (hz' pins s σ H (fun kb H1 => kb = false /\ TDT X.K (ev G cl b) σ H1 Q) I ⟨m, r, hh, dx, h1, false, w, st, e0, et, fun m' H' g w' => ⟨rfl, m', r, h1, d, h', k, w', st.mono g, e1, ek, fun m2 H2 g2 => c m2 H2 (g.trans g2)⟩⟩) fun kb s1 ⟨H1, I1, eb, q1⟩ => ?_)
      subst eb
      exact hy' pins s1 σ H1 Q I1 q1
    · cases e1
theorem dE_ix {a b : E} {x y : PySem.Expr} {pos : Pos} (hs : PlainIx y) (h_a : SE N sc G a x) (h_b : SE N sc G b y) : SE N sc G (.ix a b) (.Subscript x y pos) := fun {X ca cl} xo go => by
  have p : PE X (.Subscript x y pos) (TDE X.K (ev G cl (.ix a b))) := (pe_ix (ixSeq xo.room) (h_a xo go).1 (h_b xo go).1 hs).wk (TDE.op fun r h => by simp only [ev])
  exact ⟨p, tOf p fun _ => rfl⟩
theorem dE_tup {l : Es} {es : List PySem.Expr} {k : Nat} {pos : Pos} (h_l : SAs N sc G l es) : SE N sc G (.tup l) (.Tuple es k pos) := fun {X ca cl} xo go => by
  have p : PE X (.Tuple es k pos) (TDE X.K (ev G cl (.tup l))) := (pe_tup (h_l.2 xo go)).wk fun s H Q ⟨m, r, hh, d, h', w, st, e1, c⟩ => by
    simp only [ev] at e1
    obtain ⟨ds, h1, e0, e1⟩ := Rs.bind_ok e1
    split at e1
    · rename_i hl
      cases e1
      refine ⟨m, r, hh, ds, _, w, st, e0, fun m' vs H' g w' rd => ⟨?_, fun q hq => ?_⟩⟩
      · rw [<- rd.length]; exact Nat.le_of_lt (small1000 hl)
      · exact c m' _ _ (g.trans (Gr.tupNew hq)) (w'.keepNew hq) (.tup (.of upd_same) (rd.mono (Gr.tupNew hq)))
    · cases e1
  exact ⟨p, tOf p fun _ => rfl⟩
theorem dE_lst {l : Es} {es : List PySem.Expr} {pos : Pos} (h_l : SAs N sc G l es) : SE N sc G (.lst l) (.List es pos) := fun {X ca cl} xo go => by
  have p : PE X (.List es pos) (TDE X.K (ev G cl (.lst l))) := (pe_lst (h_l.2 xo go)).wk fun s H Q ⟨m, r, hh, d, h', w, st, e1, c⟩ => by
    simp only [ev] at e1
    obtain ⟨ds, h1, e0, e1⟩ := Rs.bind_ok e1
    split at e1
    · rename_i hl
      cases e1
      refine ⟨m, r, hh, ds, _, w, st, e0, fun m' vs H' g w' rd => ⟨?_, fun q hq => ?_⟩⟩
      · rw [<- rd.length]; exact Nat.le_of_lt (small1000 hl)
      · obtain ⟨w2, g2⟩ := w'.lstNew hq rd
        exact c _ _ _ (g.trans g2) w2 (.ref (by rw [<- w'.len]; simp))
    · cases e1
  exact ⟨p, tOf p fun _ => rfl⟩
theorem dE_call {f : Nat} {l : Es} {x : Str} {y : PySem.Expr} {ys : List PySem.Expr} {np pos : Pos} (h1 : G.fns[f]? = some x) (h : (glB sc x && noDbg x) = true) (h_l : SAs N sc G l (y :: ys)) : SE N sc G (.call f l) (.Call (.Name x np) (y :: ys) [] pos) := fun {X ca cl} xo go => by
  rw [Bool.and_eq_true] at h
  obtain ⟨h2, h3⟩ := h
  obtain ⟨d1, d2, d3⟩ := noDbg_ok h3
  obtain ⟨fa, fd, ps, k, F, hr, hm, hk, hb, hlen⟩ := go.fn f x h1
  have hns := h_l.1
  rw [List.all_cons, Bool.and_eq_true] at hns
  have p : PE X (.Call (.Name x np) (y :: ys) [] pos) (TDE X.K (ev G cl (.call f l))) := (pe_call F hr (glB_ok xo h2) hm hk hb .nil pass1 (h_l.2 xo go) d1 (star_one ys hns.1) (back_no pos hns.2)).wk fun s H Q ⟨m, r, hh, d, h', w, st, e1, c⟩ => by
    simp only [ev] at e1
    obtain ⟨ds, h1, e0, e1⟩ := Rs.bind_ok e1
    have e1 := Rs.nx_ok e1
    refine ⟨m, r, hh, ds, h1, w, st, e0, fun m' vs H' g w' rd => ?_⟩
    show spD X.K ca (cl f) ps.length (vs ++ []) H' Q E0
    rw [List.append_nil]
    exact ⟨by rw [<- rd.length]; exact hlen _ _ (by rw [e1]; exact fun z => nomatch z), m', h1, ds, w', rd, by rw [e1]; exact fun m2 v H2 g2 => c m2 v H2 (g.trans g2)⟩
  exact ⟨p, tOf p fun _ => rfl⟩
theorem dE_blt {f : Blt} {l : Es} {y : PySem.Expr} {ys : List PySem.Expr} {np pos : Pos} (h2 : glB sc f.nm = true) (h_l : SAs N sc G l (y :: ys)) : SE N sc G (.blt f l) (.Call (.Name f.nm np) (y :: ys) [] pos) := fun {X ca cl} xo go => by
  obtain ⟨d1, d3⟩ := blt_dbg f
  have hns := h_l.1
  rw [List.all_cons, Bool.and_eq_true] at hns
  have im : ∀ s H Q, TDE X.K (ev G cl (.blt f l)) s H Q -> tCB (rDc X.K (bltD f)) (TDA X.K (evs G cl l)) s H Q := fun s H Q ⟨m, r, hh, d, h', w, st, e1, c⟩ => by
    simp only [ev] at e1
    obtain ⟨ds, h1, e0, e1⟩ := Rs.bind_ok e1
    exact ⟨m, r, hh, ds, h1, w, st, e0, fun m' vs H' g w' rd => ⟨m', h1, ds, d, h', w', rd, e1, fun m2 v H2 g2 => c m2 v H2 (g.trans g2)⟩⟩
  have p : PE X (.Call (.Name f.nm np) (y :: ys) [] pos) (TDE X.K (ev G cl (.blt f l))) := by
    have cb := callBlt (X := X) xo.calm xo.room f
    have bb := boot_blt f
    have key : ∀ v, f.val = v -> (∃ i, v = .builtin i) \/ (∃ T, v = .type T) := fun v e => by subst e; cases f <;> first | exact .inl ⟨_, rfl⟩ | exact .inr ⟨_, rfl⟩
    rcases key _ rfl with ⟨i, ei⟩ | ⟨T, eT⟩
    · rw [ei] at cb bb
      exact (pe_callB cb (glB_ok xo h2) (go.blt f) bb (h_l.2 xo go) d3 d1 (star_one ys hns.1) (back_no pos hns.2)).wk im
    · rw [eT] at cb bb
      exact (pe_callTy cb (glB_ok xo h2) (go.blt f) bb (h_l.2 xo go) d3 d1 (star_one ys hns.1) (back_no pos hns.2)).wk im
  exact ⟨p, tOf p fun _ => rfl⟩
theorem dE_app {o a : E} {z : Str} {pz ap cp : Pos} {y : PySem.Expr} (h2 : (ap.endLine == cp.line) = true) (h3 : noStar y = true) (h_o : SE N sc G o (.Name z pz)) (h_a : SE N sc G a y) : SE N sc G (.app o a) (.Call (.Attribute (.Name z pz) "append" ap) [y] [] cp) := fun {X ca cl} xo go => by
  have ho := (h_o xo go).1
  have hA : PA X [y] (tCons (TDE X.K (ev G cl a)) tNil) := pa_cons ((h_a xo go).1) pa_nil (star_one [] h3)
  have p : PE X (.Call (.Attribute (.Name z pz) "append" ap) [y] [] cp) (TDE X.K (ev G cl (.app o a))) := (pe_bm PySem.F.plainAttrs_list PySem.F.slot_list_append PySem.F.type_list_append mt_append ho hA rfl (by rw [star_one [] h3]; rfl) h2 (star_one [] h3) rfl).wk fun s H Q q => by
    refine TDE.one (fun _ _ => rfl) q fun m m2 r d h2 h' H2 dx v st g w2 st2 rx e c => ?_
    split at e
    · rename_i hl
      obtain ⟨dy, h3, e3, e⟩ := Rs.bind_ok e
      cases rx <;> first | (cases e; done) | skip
      case ref n a' ha eb =>
        simp only [appD] at e
        split at e <;> first | (cases e; done) | skip
        rename_i l el
        split at e <;> first | (cases e; done) | skip
        rename_i hz
        cases e
        have hl' : ∃ l0, lstAt h2 n = some l0 := Option.isSome_iff_exists.mp hl
        obtain ⟨l0, hl'⟩ := hl'
        obtain ⟨a'', vs0, ha'', hq, _⟩ := w2.lst hl'
        rw [ha] at ha''; cases ha''
        refine ⟨.inl ⟨rfl, vs0, hq⟩, m2, r, h2, dy, h3, w2, st2, e3, fun m3 y' H3 g3 w3 ry => ?_⟩
        have ha3 := g3.pre _ _ ha
        obtain ⟨vs, hv, rv⟩ : ∃ vs, H3 a' = some (.lst vs) /\ RDs X.K m3 H3 l vs := w3.ob n _ a' el ha3
        obtain ⟨_, w4, g4⟩ := w3.lstSet el ha3 (rv.append (.cons ry .nil))
        exact ⟨a', vs, y', rfl, rfl, hv, by rw [<- rv.length]; exact Nat.lt_of_lt_of_le hz (by decide), c m3 _ _ (g3.trans g4) w4 .non⟩
    · cases e
  exact ⟨p, tOf p fun _ => rfl⟩
theorem cut_take {α : Type} (l : List α) (i : Int) (h : 0 <= i) : (l.drop (HT.sIx l.length 0 none)).take (HT.sIx l.length l.length (some i) - HT.sIx l.length 0 none) = l.take i.toNat := by
  have : HT.sIx l.length l.length (some i) = min i.toNat l.length := by
    show (if i < 0 then _ else _) = _
    rw [if_neg (by omega)]
  rw [HT.sIx_none, this, List.drop_zero, Nat.sub_zero]
  by_cases z : i.toNat <= l.length
  · rw [Nat.min_eq_left z]
  · rw [Nat.min_eq_right (by omega), List.take_length, List.take_of_length_le (by omega)]
theorem cut_drop {α : Type} (l : List α) (i : Int) (h : 0 <= i) : (l.drop (HT.sIx l.length 0 (some i))).take (HT.sIx l.length l.length none - HT.sIx l.length 0 (some i)) = l.drop i.toNat := by
  have : HT.sIx l.length 0 (some i) = min i.toNat l.length := by
    show (if i < 0 then _ else _) = _
    rw [if_neg (by omega)]
  rw [HT.sIx_none, this]
  by_cases z : i.toNat <= l.length
  · rw [Nat.min_eq_left z, List.take_of_length_le (by rw [List.length_drop]; omega)]
  · rw [Nat.min_eq_right (by omega), List.drop_length, List.drop_of_length_le (by omega), List.take_nil]
theorem cut_back {α : Type} (l : List α) (i : Int) (h : ¬ 0 <= i) : (l.drop (HT.sIx l.length 0 (some i))).take (HT.sIx l.length l.length none - HT.sIx l.length 0 (some i)) = l.drop (l.length - i.natAbs) := by
  have : HT.sIx l.length 0 (some i) = l.length - i.natAbs := by
    show (if i < 0 then (i + (l.length : Int)).toNat else _) = _
    rw [if_pos (by omega)]
    omega
  rw [HT.sIx_none, this, List.take_of_length_le (by rw [List.length_drop]; omega)]
theorem RDs.take {K : PySem.W.Frag} {m : List Addr} {H : Hp} : ∀ {ds : List D} {vs : List V} (n : Nat), RDs K m H ds vs -> RDs K m H (ds.take n) (vs.take n)
  | _, _, 0, _ => by rw [List.take_zero, List.take_zero]; exact .nil
  | _, _, n + 1, .nil => by rw [List.take_nil, List.take_nil]; exact .nil
  | _, _, n + 1, .cons h t => by rw [List.take_succ_cons, List.take_succ_cons]; exact .cons h (RDs.take n t)
theorem RDs.drop {K : PySem.W.Frag} {m : List Addr} {H : Hp} : ∀ {ds : List D} {vs : List V} (n : Nat), RDs K m H ds vs -> RDs K m H (ds.drop n) (vs.drop n)
  | _, _, 0, q => q
  | _, _, n + 1, .nil => .nil
  | _, _, n + 1, .cons h t => RDs.drop n t
theorem dE_slU {a b : E} {x y : PySem.Expr} {p2 pos : Pos} (h_a : SE N sc G a x) (h_b : SE N sc G b y) : SE N sc G (.slU a b) (.Subscript x (.Slice none (some y) none p2) pos) := fun {X ca cl} xo go => by
  have p : PE X (.Subscript x (.Slice none (some y) none p2) pos) (TDE X.K (ev G cl (.slU a b))) := (pe_slice sl_list (h_a xo go).1 po_none (po_some (h_b xo go).1)).wk fun s H Q q => by
    obtain ⟨m, r, h, d, h', w, st, e, c⟩ := q
    rw [ev] at e
    refine TDE.two w st e fun m2 H2 h2 dx dy x y g w2 rx ry e => ?_
    unfold slUD at e
    split at e
    · rename_i l i hl el
      split at e
      · rename_i hi
        cases e
        obtain ⟨p, vs, rfl, hq, q⟩ := lst_of w2 rx hl el
        cases ry
        refine ⟨i, rfl, p, vs, rfl, hq, fun k hk => ?_⟩
        have e1 : cutV vs none (some i) = vs.take i.toNat := cut_take vs i hi
        rw [e1]
        obtain ⟨w3, g3⟩ := w2.lstNew hk (q.take i.toNat)
        exact c _ _ _ (g.trans g3) w3 (.ref (by rw [<- w2.len]; simp))
      · cases e
    · cases e
  exact ⟨p, tOf p fun _ => rfl⟩
theorem dE_slL {a b : E} {x y : PySem.Expr} {p2 pos : Pos} (h_a : SE N sc G a x) (h_b : SE N sc G b y) : SE N sc G (.slL a b) (.Subscript x (.Slice (some y) none none p2) pos) := fun {X ca cl} xo go => by
  have p : PE X (.Subscript x (.Slice (some y) none none p2) pos) (TDE X.K (ev G cl (.slL a b))) := (pe_slice sl_list (h_a xo go).1 (po_some (h_b xo go).1) po_none).wk fun s H Q q => by
    obtain ⟨m, r, h, d, h', w, st, e, c⟩ := q
    rw [ev] at e
    refine TDE.two w st e fun m2 H2 h2 dx dy x y g w2 rx ry e => ?_
    unfold slLD at e
    split at e
    · rename_i l i hl el
      split at e
      · rename_i hi
        cases e
        obtain ⟨p, vs, rfl, hq, q⟩ := lst_of w2 rx hl el
        cases ry
        refine ⟨i, rfl, p, vs, rfl, hq, fun k hk => ?_⟩
        have e1 : cutV vs (some i) none = vs.drop i.toNat := cut_drop vs i hi
        rw [e1]
        obtain ⟨w3, g3⟩ := w2.lstNew hk (q.drop i.toNat)
        exact c _ _ _ (g.trans g3) w3 (.ref (by rw [<- w2.len]; simp))
      · rename_i hi
        cases e
        obtain ⟨p, vs, rfl, hq, q⟩ := lst_of w2 rx hl el
        cases ry
        refine ⟨i, rfl, p, vs, rfl, hq, fun k hk => ?_⟩
        have e1 : cutV vs (some i) none = vs.drop (vs.length - i.natAbs) := cut_back vs i hi
        rw [e1]
        obtain ⟨w3, g3⟩ := w2.lstNew hk (q.drop (vs.length - i.natAbs))
        rw [<- q.length] at *
        exact c _ _ _ (g.trans g3) w3 (.ref (by rw [<- w2.len]; simp))
    · cases e
  exact ⟨p, tOf p fun _ => rfl⟩
theorem strs_rel {K : PySem.W.Frag} {m : List Addr} {H : Hp} : ∀ {ds : List D} {vs : List V} {us : List Value} {xs : List Str}, RDs K m H ds vs -> Vals vs us -> strsD ds = some xs -> StrsAre us xs
  | _, _, _, _, .nil, .nil, e => by cases e; exact .nil
  | _, _, _, _, .cons r q, .cons v t, e => by
    cases r <;> first | (cases e; done) | skip
    simp only [strsD, Option.map_eq_some_iff] at e
    obtain ⟨l, e1, rfl⟩ := e
    obtain ⟨tk, rfl⟩ := v
    exact .cons _ tk (strs_rel q t e1)
theorem mt_join {X : Cx} (z : Str) : MtR X "str.join" (fun x vs H Q => x = .str z /\ ∃ m h y v d h', vs = [v] /\ Wd X.K m h H /\ RD X.K m H y v /\ joinD z y h = .ok d h' /\ ∀ m' v H', Gr X.K m H m' H' -> Wd X.K m' h' H' -> RD X.K m' H' d v -> Q v H') := by
  intro pins s σ H x vs v us Q I rx rv ⟨ex, m, h, y, v', d, h', ev, w, r1, e, c⟩
  subst ex ev
  obtain ⟨t, rfl⟩ := rx
  obtain ⟨u, rfl, ru⟩ := vals1 rv
  unfold joinD at e
  split at e
  · rename_i l hl el
    split at e
    · rename_i xs ex
      split at e
      · rename_i hz
        cases e
        obtain ⟨p, ws, rfl, hq, q⟩ := lst_of w r1 hl el
        cases ru
        obtain ⟨its, p1, t1, _⟩ := I.list hq
        exact join_list t1.isList (by simpa using strs_rel q p1 ex) (by omega) fun t' k => ⟨.str _, H, I.tok k, ⟨t', rfl⟩, c m _ H .refl w (.str _)⟩
      · cases e
    · cases e
  · cases e
theorem dE_join {z : Str} {a : E} {j : Nat} {kp ap cp : Pos} {y : PySem.Expr} (h2 : (ap.endLine == cp.line) = true) (h3 : noStar y = true) (h_a : SE N sc G a y) : SE N sc G (.join z a) (.Call (.Attribute (.Constant (.str z) j kp) "join" ap) [y] [] cp) := fun {X ca cl} xo go => by
  have hA : PA X [y] (tCons (TDE X.K (ev G cl a)) tNil) := pa_cons ((h_a xo go).1) pa_nil (star_one [] h3)
  have p : PE X (.Call (.Attribute (.Constant (.str z) j kp) "join" ap) [y] [] cp) (TDE X.K (ev G cl (.join z a))) := (pe_bm PySem.F.plainAttrs_str PySem.F.slot_str_join PySem.F.type_str_join (mt_join z) pe_str hA rfl (by rw [star_one [] h3]; rfl) (by simpa using h2) (star_one [] h3) rfl).wk fun s H Q q => by
    refine ⟨rfl, TDE.one (k := fun _ x h => joinD z x h) (fun r h => by rw [ev]) q fun m m2 r d h2 h' H2 dx v st g w2 st2 rx e c => ?_⟩
    exact ⟨rfl, m2, h2, dx, v, d, h', rfl, w2, rx, e, c⟩
  exact ⟨p, tOf p fun _ => rfl⟩
theorem sa_nil : SAs N sc G .nil [] := ⟨rfl, fun {X ca cl} xo go => L2.PA.wk pa_nil fun s H Q ⟨m, r, hh, ds, h', w, st, e1, c⟩ => by
    cases e1
    exact c m [] H Gr.refl w .nil⟩
theorem sa_cons {c : E} {l : Es} {e : PySem.Expr} {es : List PySem.Expr} (hn : noStar e = true) (he : SE N sc G c e) (hl : SAs N sc G l es) : SAs N sc G (.cons c l) (e :: es) := ⟨by rw [List.all_cons, hn, hl.1]; rfl, fun {X ca cl} xo go => by
    refine L2.PA.wk (pa_cons (he xo go).1 (hl.2 xo go) (star_one es hn)) fun s H Q ⟨m, r, hh, ds, h', w, st, e1, cc⟩ => ?_
    simp only [evs] at e1
    obtain ⟨d, h1, e0, e1⟩ := Rs.bind_ok e1
    obtain ⟨ds', h2, e2, e1⟩ := Rs.bind_ok e1
    cases e1
    exact ⟨m, r, hh, d, h1, w, st, e0, fun m1 v H1 g1 w1 rv => ⟨m1, r, h1, ds', _, w1, st.mono g1, e2, fun m2 vs H2 g2 w2 rvs => cc m2 _ H2 (g1.trans g2) w2 (.cons (rv.mono g2) rvs)⟩⟩⟩
theorem sb_nil : SBs N sc G .nil [] := fun {X ca cl} xo go => fun pins s σ H Q I ⟨m, r, hh, b, h', w, st, e1, c⟩ => by
    rw [evt] at e1
    cases e1
    exact wpAny_pure ⟨H, I, c m H Gr.refl w⟩
structure Blk (N : List Str) (sc : Scope) (N' : List Str) (cap : List Nat) (scope : Scope) : Prop where
  S : ScOk scope sc
  nd : N'.Nodup
  capL : cap.length <= N'.length
  nN : (N'.drop (N'.length - cap.length)).map some = cap.map (fun (i : Nat) => N[i]?)
  fr : ∀ x ∈ N'.drop (N'.length - cap.length), scope.names.lookup x = some .free
theorem blk_of {N' : List Str} {cap : List Nat} {scope : Scope} (h : (scOk scope sc && nodupB N' && capOk N N' cap scope) = true) : Blk N sc N' cap scope := by
  simp only [Bool.and_eq_true] at h
  obtain ⟨⟨h1, h2⟩, h3⟩ := h
  unfold capOk at h3
  simp only [Bool.and_eq_true, decide_eq_true_eq, beq_iff_eq, List.all_eq_true] at h3
  exact ⟨scOk_of h1, nodupB_ok h2, h3.1.1, h3.1.2, h3.2⟩
def tgOk : Ck -> PySem.Expr -> Bool
  | .itf, .Tuple _ _ _ => true
  | .itf, _ => false
  | .its, .Tuple _ _ _ => true
  | .its, _ => false
  | .zp, .Tuple _ _ _ => true
  | .zp, _ => false
  | _, _ => true
def SIt (N : List Str) (sc : Scope) (G : Gs) (k : Ck) (it : Es) (iter : PySem.Expr) : Prop := ∀ {X : Cx} {ca : Nat -> Addr} {cl : Cl}, XOk X N sc -> GOk X G ca cl -> ∀ {t : Tg} {tg : PySem.Expr} {ft : Ev -> Hh -> Rs Bool} {fe : Ev -> Hh -> Rs D} {N' : List Str} {cap : List Nat} (_ : tgOk k tg = true)
    (pins : List (Addr × Obj)) (s : Shared) (σ : Sg) (H : Hp) (m : List Addr) (r : Ev) (h : Hh) (xs : List D) (h1 h' : Hh), Inv X pins σ H s -> Wd X.K m h H -> RSt X.K m H r σ -> evs G cl it r h = .ok xs h1 -> compL t ft fe h1.length k xs h1 (blockE N' cap r) (h1 ++ [.lst []]) = .ok () h' ->
    wpAny (model X.prog X.w) X.A (eval iter X.env) (fun v s1 => wpAny (model X.prog X.w) X.A (pyIter v)
      (PIE X pins σ tg fun J H2 => ∃ (m2 : List Addr) (h2 : Hh), h2.length = h1.length /\ Gr X.K m H m2 H2 /\ Wd X.K m2 h2 H2 /\ Turns X.K t ft fe h2.length h' J m2 H2 (blockE N' cap r) (h2 ++ [.lst []])) X.xe s1) X.xe s
theorem it_sq {a : E} {x : PySem.Expr} (ha : SE N sc G a x) : SIt N sc G .sq (.cons a .nil) x := fun {X ca cl} xo go {t tg ft fe N' cap} tk pins s σ H m r h xs h1 h' I w st e1 e3 => by
  have hp := (ha xo go).1
  rw [evs] at e1
  obtain ⟨x, h5, ex, e1⟩ := Rs.bind_ok e1
  rw [evs] at e1
  obtain ⟨_, _, e4, e1⟩ := Rs.bind_ok e1
  cases e4; cases e1
  cases x <;> first | (cases e3; done) | skip
  · refine pi_tup hp pins s σ H _ I ⟨m, r, h, _, _, w, st, ex, fun m' v H' g w' rv => ?_⟩
    cases rv with
    | tup hq q => exact ⟨_, rfl, ⟨_, hq⟩, m', _, rfl, g, w', turns_tup hq q e3⟩
  · rename_i n
    simp only [compL] at e3
    split at e3
    · rename_i l el
      refine pi_list hp pins s σ H _ I ⟨m, r, h, _, _, w, st, ex, fun m' v H' g w' rv => ?_⟩
      cases rv with
      | ref ha =>
        obtain ⟨a', vs, ha', hq, _⟩ := w'.lst el
        rw [ha] at ha'; cases ha'
        exact ⟨_, rfl, ⟨_, hq⟩, m', _, rfl, g, w', turns_lst ha e3⟩
    · cases e3
theorem it_r1 {a : E} {y : PySem.Expr} {p pos : Pos} (hg : glB sc "range" = true) (hs : noStar y = true) (ha : SE N sc G a y) : SIt N sc G .r1 (.cons a .nil) (.Call (.Name "range" p) [y] [] pos) := fun {X ca cl} xo go {t tg ft fe N' cap} tk pins s σ H m r h xs h1 h' I w st e1 e3 => by
  have hA := sa_cons hs ha (sa_nil (N := N) (sc := sc) (G := G))
  refine pi_range1 (glB_ok xo hg) xo.rng (hA.2 xo go) (star_one [] hs) pins s σ H _ I ⟨m, r, h, xs, h1, w, st, e1, fun m' vs H' g w' rv => ?_⟩
  rcases xs with _ | ⟨x, _ | ⟨y, xs⟩⟩ <;> first | (cases e3; done) | (cases x <;> (cases e3; done)) | skip
  cases x <;> first | (cases e3; done) | skip
  rename_i j
  simp only [compL] at e3
  split at e3
  · rename_i ho
    cases rv with
    | cons rx rv =>
      cases rx; cases rv
      have tt := turns_rng (K := X.K) (m2 := m') (H2 := H') (lo := 0) (hi := j) e3
      exact ⟨j, rfl, ho.1, ho.2, m', _, rfl, g, w', by simpa using tt⟩
  · cases e3
theorem comp_w {t : Tg} {k : Ck} {it cs : Es} {e : E} {N' : List Str} {cap : List Nat} {tg iter : PySem.Expr} (hi : SIt N sc G k it iter) (tk : tgOk k tg = true) {X : Cx} {ca : Nat -> Addr} {cl : Cl} (xo : XOk X N sc) (go : GOk X G ca cl)
    (pins : List (Addr × Obj)) (s : Shared) (σ : Sg) (H : Hp) (m : List Addr) (r : Ev) (h : Hh) (d : D) (h' : Hh) (I : Inv X pins σ H s) (w : Wd X.K m h H) (st : RSt X.K m H r σ) (ev1 : ev G cl (.comp t k it cs e N' cap) r h = .ok d h') :
    ∃ h1 : Hh, d = .ref h1.length /\ wpAny (model X.prog X.w) X.A (eval iter X.env) (fun v s1 => wpAny (model X.prog X.w) X.A (pyIter v)
      (PIE X pins σ tg fun J H2 => ∃ (m2 : List Addr) (h2 : Hh), h2.length = h1.length /\ Gr X.K m H m2 H2 /\ Wd X.K m2 h2 H2 /\ Turns X.K t (evt G cl cs) (ev G cl e) h2.length h' J m2 H2 (blockE N' cap r) (h2 ++ [.lst []])) X.xe s1) X.xe s := by
  rw [ev] at ev1
  obtain ⟨xs, hh1, e1, e2⟩ := Rs.bind_ok ev1
  obtain ⟨_, hh2, e3, e2⟩ := Rs.bind_ok e2
  cases e2
  exact ⟨hh1, rfl, hi xo go tk pins s σ H m r h xs hh1 _ I w st e1 e3⟩
theorem comp_blk {t : Tg} {cs : Es} {e : E} {N' : List Str} {cap : List Nat} {elt tg : PySem.Expr} {ifs : List PySem.Expr} {scope : Scope} (B : Blk N sc N' cap scope) (ht : chkT' N' scope t tg = true) (hc : SBs N' (relab scope sc) G cs ifs) (he : SE N' (relab scope sc) G e elt) {X : Cx} {ca : Nat -> Addr} {cl : Cl} (xo : XOk X N sc) (go : GOk X G ca cl) (C : Addr) (s3 : Shared) (H3 : Hp) (fp : List Addr) :
    PG (blkX X N' scope C s3 H3 fp) tg (TDG X.K t) /\ PTs (blkX X N' scope C s3 H3 fp) ifs (TDB X.K (evt G cl cs)) /\ PE (blkX X N' scope C s3 H3 fp) elt (TDE X.K (ev G cl e)) :=
  ⟨pgT' (blk_xo xo B.nd C s3 H3 fp) (blk_loc (by rw [xo.s]; exact B.S) C s3 H3 fp) ht, hc (blk_xo xo B.nd C s3 H3 fp) (blk_go go C s3 H3 fp), (he (blk_xo xo B.nd C s3 H3 fp) (blk_go go C s3 H3 fp)).1⟩
theorem dE_comp {t : Tg} {k : Ck} {it cs : Es} {e : E} {N' : List Str} {cap : List Nat} {elt tg iter : PySem.Expr} {ifs : List PySem.Expr} {scope : Scope} {pos : Pos} (B : Blk N sc N' cap scope) (ns : noSet iter = true) (ht : chkT' N' scope t tg = true) (hi : SIt N sc G k it iter) (hc : SBs N' (relab scope sc) G cs ifs) (he : SE N' (relab scope sc) G e elt) (tk : tgOk k tg = true := by rfl) :
    SE N sc G (.comp t k it cs e N' cap) (.ListComp elt [⟨tg, iter, ifs, 0⟩] scope pos) := fun {X ca cl} xo go => by
  have p : PE X (.ListComp elt [⟨tg, iter, ifs, 0⟩] scope pos) (TDE X.K (ev G cl (.comp t k it cs e N' cap))) := comp_pe xo B.S B.capL B.nN B.fr (comp_blk B ht hc he xo go) ns (comp_w hi tk xo go)
  exact ⟨p, tOf p fun _ => rfl⟩
end
end Ng
end
section
namespace Ng
open PySem PySem.Spec PyProof.Rows L2
section
variable {N : List Str} {sc : Scope} {G : Gs}
theorem dE_slT {a b : E} {x y : PySem.Expr} {p2 pos : Pos} (h_a : SE N sc G a x) (h_b : SE N sc G b y) : SE N sc G (.slT a b) (.Subscript x (.Slice none (some y) none p2) pos) := fun {X ca cl} xo go => by
  have p : PE X (.Subscript x (.Slice none (some y) none p2) pos) (TDE X.K (ev G cl (.slT a b))) := (pe_slice sl_tup (h_a xo go).1 po_none (po_some (h_b xo go).1)).wk fun s H Q q => by
    obtain ⟨m, r, h, d, h', w, st, e, c⟩ := q
    rw [ev] at e
    refine TDE.two w st e fun m2 H2 h2 dx dy x y g w2 rx ry e => ?_
    unfold slTD at e
    split at e <;> first | (cases e; done) | skip
    rename_i l i
    split at e <;> first | (cases e; done) | skip
    rename_i hi
    cases e
    cases ry
    cases rx with
    | @tup a' _ vs hq q =>
      have lq := q.length
      refine ⟨i, rfl, a', vs, rfl, hq, fun z => ?_, fun k hk => ?_⟩
      · have : HT.sIx vs.length vs.length (some i) = min i.toNat vs.length := by
          show (if i < 0 then _ else _) = _
          rw [if_neg (by omega)]
        omega
      · have e1 : cutV vs none (some i) = vs.take i.toNat := cut_take vs i hi.1
        rw [e1]
        have gt := Gr.tupNew (K := X.K) (m := m2) (o := .tup (vs.take i.toNat)) hk
        exact c _ _ _ (g.trans gt) (w2.keepNew hk) (.tup (.of upd_same) ((q.take i.toNat).mono gt))
  exact ⟨p, tOf p fun _ => rfl⟩
end
end Ng
end
section
namespace Ng
open PySem PySem.Spec PyProof.Rows L2
def clipN (n d : Nat) : Option Int -> Nat
  | none => d
  | some i => min i.toNat n
def nneg : Option Int -> Prop
  | none => True
  | some i => 0 <= i
theorem str_idx (lo hi : Option Int) (n : Nat) (h1 : nneg lo) (h2 : nneg hi) : Builtin.Str.strSliceIndices lo hi 1 n = sliceRange (clipN n 0 lo : Nat) (clipN n n hi : Nat) 1 := by
  have c : ∀ i : Int, 0 <= i -> max 0 (min (if i < 0 then i + (n : Int) else i) (n : Int)) = ((min i.toNat n : Nat) : Int) := fun i hi => by rw [if_neg (by omega)]; omega
  unfold Builtin.Str.strSliceIndices
  cases lo with
  | none =>
    cases hi with
    | none => rfl
    | some j => simp only [show (1 : Int) > 0 by decide, if_true, c j h2]; rfl
  | some i =>
    cases hi with
    | none => simp only [show (1 : Int) > 0 by decide, if_true, c i h1]; rfl
    | some j => simp only [show (1 : Int) > 0 by decide, if_true, c i h1, c j h2]; rfl
def cutS (z : Str) (lo hi : Option Int) : Str := ⟨((z.cps.toList.drop (clipN z.length 0 lo)).take (clipN z.length z.length hi - clipN z.length 0 lo)).toArray⟩
def rSlS : V -> Option Int -> Option Int -> Hp -> VK -> Prop := fun x lo hi H Q => ∃ z, x = .str z /\ z.length <= sizeLine /\ nneg lo /\ nneg hi /\ Q (.str (cutS z lo hi)) H
theorem part_of {v : Value} {p : Option Int} (h : IsPart v p) : ∃ q : Option (Int × Tok), v = partValue q /\ q.map (·.1) = p := by
  cases h with
  | none => exact ⟨none, rfl, rfl⟩
  | int i t => exact ⟨some (i, t), rfl, rfl⟩
theorem sl_str {X : Cx} : SlR X rSlS := by
  intro pins s σ H x v vl vu lo hi sl Q I rx hs pl pu ⟨z, ex, hz, n1, n2, q⟩
  subst ex
  obtain ⟨t, rfl⟩ := rx
  obtain ⟨l, rfl, rfl⟩ := part_of pl
  obtain ⟨u, rfl, rfl⟩ := part_of pu
  refine ⟨"str", _, F.slot_str_getitem.lookup, typeIs_str s z t, ?_⟩
  refine wpAny_getItem_str_slice (l := l) (u := u) (st := none) hs rfl ?_
  have ep : slicePicked z l u none = (List.range (clipN z.length z.length (u.map (·.1)) - clipN z.length 0 (l.map (·.1)))).map (clipN z.length 0 (l.map (·.1)) + ·) := by
    show Builtin.Str.strSliceIndices _ _ 1 z.length = _
    rw [str_idx _ _ _ n1 n2, sliceRange_one]
  unfold sliceMade
  rw [ep]
  split
  · rename_i he
    have he' : clipN z.length z.length (u.map (·.1)) - clipN z.length 0 (l.map (·.1)) = z.length := by simpa using he
    have ez : cutS z (l.map (·.1)) (u.map (·.1)) = z := by
      have hu : clipN z.length z.length (u.map (·.1)) <= z.length := by
        cases u with
        | none => exact Nat.le_refl _
        | some p => exact Nat.min_le_right _ _
      have h0 : (z.cps.toList.drop (clipN z.length 0 (l.map (·.1)))).take (clipN z.length z.length (u.map (·.1)) - clipN z.length 0 (l.map (·.1))) = z.cps.toList := by
        have ln : z.cps.toList.length = z.length := Array.length_toList
        by_cases hz0 : z.length = 0
        · have : z.cps.toList = [] := List.length_eq_zero_iff.mp (by omega)
          rw [this]; simp
        · have c0 : clipN z.length 0 (l.map (·.1)) = 0 := by omega
          rw [c0, List.drop_zero, List.take_of_length_le (by omega)]
      unfold cutS
      rw [h0]
    rw [ez] at q
    exact ⟨.str z, H, I, ⟨t, rfl⟩, q⟩
  · rw [pick_run]
    refine ⟨?_, .str (cutS z (l.map (·.1)) (u.map (·.1))), H, I.tok _, ⟨_, rfl⟩, q⟩
    show ((z.cps.toList.drop _).take _).toArray.size <= sizeLine
    rw [List.size_toArray, List.length_take, List.length_drop]
    have ln : z.cps.toList.length = z.length := Array.length_toList
    omega
section
variable {N : List Str} {sc : Scope} {G : Gs}
theorem cutS_drop (z : Str) (i : Int) : cutS z (some i) none = ⟨(z.cps.toList.drop i.toNat).toArray⟩ := by
  have ln : z.cps.toList.length = z.length := Array.length_toList
  show (⟨((z.cps.toList.drop (min i.toNat z.length)).take (z.length - min i.toNat z.length)).toArray⟩ : Str) = _
  congr 2
  by_cases h : i.toNat <= z.length
  · rw [Nat.min_eq_left h, List.take_of_length_le (by rw [List.length_drop]; omega)]
  · rw [Nat.min_eq_right (by omega), List.drop_of_length_le (by omega), List.drop_of_length_le (by omega), List.take_nil]
theorem dE_slZ {a b : E} {x y : PySem.Expr} {p2 pos : Pos} (h_a : SE N sc G a x) (h_b : SE N sc G b y) : SE N sc G (.slZ a b) (.Subscript x (.Slice (some y) none none p2) pos) := fun {X ca cl} xo go => by
  have p : PE X (.Subscript x (.Slice (some y) none none p2) pos) (TDE X.K (ev G cl (.slZ a b))) := (pe_slice sl_str (h_a xo go).1 (po_some (h_b xo go).1) po_none).wk fun s H Q q => by
    obtain ⟨m, r, h, d, h', w, st, e, c⟩ := q
    rw [ev] at e
    refine TDE.two w st e fun m2 H2 h2 dx dy x y g w2 rx ry e => ?_
    unfold slZD at e
    split at e <;> first | (cases e; done) | skip
    rename_i z i
    split at e <;> first | (cases e; done) | skip
    rename_i hi
    cases e
    cases ry; cases rx
    refine ⟨i, rfl, z, rfl, Nat.le_trans hi.2 (by decide), hi.1, trivial, ?_⟩
    rw [cutS_drop]
    exact c m2 _ H2 g w2 (.str _)
  exact ⟨p, tOf p fun _ => rfl⟩
end
end Ng
end
section
namespace Ng
open PySem PySem.Spec PyProof.Rows L2
def Itc (x : Str) : It := ⟨fun i _ => i < x.cps.size, fun i H y H' => H' = H /\ ∃ c, x.cps[i]? = some c /\ y = .str ⟨#[c]⟩, fun i _ => x.cps.size <= i⟩
theorem turn_str {P : Program} {w : World} {K : PySem.W.Frag} {tg : PySem.Expr} {x : Str} {t : Tok} {T : String} {it : Addr} (hn : ["enumerate", "zip", "dict_itemiterator", "dict_reverseitemiterator", "odict_iterator", "itertools.zip_longest", "itertools.pairwise"].contains T = false)
    (W : ∀ A' : Around, A'.handled = none -> Walks P w A' it [it] [it] x.cps.size (SignAt x) (fun i h => h.IsStrIter it T x t i)) (hs : ∀ (A : Around) (i : Nat) (s : Shared) (Q : Value -> Shared -> Prop) (E : Value -> Shared -> Prop), s.heap.IsStrIter it T x t i -> Q (.ref it) s -> wpAny (model P w) A (pyIter (.ref it)) Q E s) :
    Turn P w K tg (Itc x) [it] it (fun i h => i <= x.cps.size /\ h.IsStrIter it T x t i) where
  mem := by simp
  obj := fun i h st b hb => by
    have e : b = it := by simpa using hb
    subst e
    obtain ⟨_, o, e, c, d⟩ := st
    exact ⟨o, e, fun v z => by rw [d] at z; cases z⟩
  keep := fun i h h' st k => ⟨st.1, let ⟨o, e, r⟩ := st.2; ⟨o, k it (by simp) o e, r⟩⟩
  item := by
    intro X hP hw hK hc i pins s σ H E I hf st hg
    subst hP hw hK
    obtain ⟨f0, f1, f2, f3, f4, f5⟩ := hf it (by simp)
    refine (W X.A (I.ok.hd hc)).item i s _ _ hg st.2 fun v h' tk hv st' kk => ?_
    obtain ⟨c, u, h1, rfl⟩ := hv
    have I1 : Inv X pins σ H { s with heap := h', toks := tk } := I.turned (fun b o hb e => kk b o (by simpa using hb) e) f0 f1 f3 f4 f5
    obtain ⟨o, e1, e2, e3⟩ := id st'
    exact ⟨_, rfl, go_of (s := { s with heap := h', toks := tk }) (n := T) e1 e2 e3 hn ⟨.str ⟨#[c]⟩, H, I1, ⟨u, rfl⟩, ⟨rfl, c, h1, rfl⟩, ⟨hg, st'⟩, fun b hb => (hf b hb).1⟩⟩
  done := by
    intro X hP hw hK hc i pins s σ H E I hf st hg
    subst hP hw hK
    obtain ⟨f0, f1, f2, f3, f4, f5⟩ := hf it (by simp)
    obtain ⟨s1, s2⟩ := st
    have ei : i = x.cps.size := Nat.le_antisymm s1 hg
    subst ei
    exact (W X.A (I.ok.hd hc)).done s _ _ s2 fun h' tk eb => ⟨rfl, I.turned (t' := tk) (fun b o hb e => eb b o (by simpa using hb) e) f0 f1 f3 f4 f5⟩
  self := fun A i s Q E st h => hs A i s Q E st.2 h
section
variable {N : List Str} {sc : Scope} {G : Gs}
theorem it_st {a : E} {x : PySem.Expr} (ha : SE N sc G a x) : SIt N sc G .st (.cons a .nil) x := fun {X ca cl} xo go {t tg ft fe N' cap} tk pins s σ H m r h xs h1 h' I w st e1 e3 => by
  have hp := (ha xo go).1
  rw [evs] at e1
  obtain ⟨x, h5, ex, e1⟩ := Rs.bind_ok e1
  rw [evs] at e1
  obtain ⟨_, _, e4, e1⟩ := Rs.bind_ok e1
  cases e4; cases e1
  obtain ⟨y, rfl⟩ : ∃ y, x = .str y := by cases x <;> first | exact ⟨_, rfl⟩ | (cases e3; done)
  simp only [compL] at e3
  split at e3 <;> first | (cases e3; done) | skip
  refine thn (hp pins s σ H (fun v H' => ∃ m', Gr X.K m H m' H' /\ Wd X.K m' h1 H' /\ RD X.K m' H' (.str y) v) I ⟨m, r, h, _, _, w, st, ex, fun m' v H' g w' rv => ⟨m', g, w', rv⟩⟩) fun u s1 ⟨v, H1, I1, rv, m1, g1, w1, rd⟩ => ?_
  cases rd
  obtain ⟨tt, rfl⟩ := rv
  have tl : Turns X.K t ft fe h1.length h' (Itc y) m1 H1 (blockE N' cap r) (h1 ++ [.lst []]) := by
    refine turns_static e3 (fun i d m H g ed => ?_) fun i m H g hi => ?_
    · rw [List.getElem?_map, Option.map_eq_some_iff] at ed
      obtain ⟨c, ec, rfl⟩ := ed
      have ec' : y.cps[i]? = some c := by rw [<- Array.getElem?_toList]; exact ec
      refine ⟨(Array.getElem?_eq_some_iff.mp ec').1, fun z H' ⟨q1, c', q2, q3⟩ => ?_⟩
      rw [ec'] at q2; cases q2
      subst q3
      exact ⟨q1, .str _⟩
    · rw [List.length_map, Array.length_toList] at hi
      exact hi
  have fin : ∀ (T : String) (o : Obj), o.cls = .type T -> o.data = .fields #[.str y tt, .int 0 0] -> o.isFreed = false -> ["enumerate", "zip", "dict_itemiterator", "dict_reverseitemiterator", "odict_iterator", "itertools.zip_longest", "itertools.pairwise"].contains T = false ->
      (∀ A' : Around, A'.handled = none -> Walks X.prog X.w A' s1.heap.objs.size [s1.heap.objs.size] [s1.heap.objs.size] y.cps.size (SignAt y) (fun i h => h.IsStrIter s1.heap.objs.size T y tt i)) -> (∀ (A : Around) (i : Nat) (s : Shared) (Q : Value -> Shared -> Prop) (E : Value -> Shared -> Prop), s.heap.IsStrIter s1.heap.objs.size T y tt i -> Q (.ref s1.heap.objs.size) s -> wpAny (model X.prog X.w) A (pyIter (.ref s1.heap.objs.size)) Q E s) ->
      PIE X pins σ tg (fun J H2 => ∃ (m2 : List Addr) (h2 : Hh), h2.length = h1.length /\ Gr X.K m H m2 H2 /\ Wd X.K m2 h2 H2 /\ Turns X.K t ft fe h2.length h' J m2 H2 (blockE N' cap r) (h2 ++ [.lst []])) (.ref s1.heap.objs.size) { s1 with heap := s1.heap.push o } := fun T o o1 o2 of hn W hs => by
    refine ⟨s1.heap.objs.size, [s1.heap.objs.size], _, _, H1, rfl, I1.kept (t' := s1.toks) fun b o e => Heap.get?_push_of_some _ e, turn_str hn W hs, ⟨Nat.zero_le _, o, Heap.get?_push_size _ of, o1, o2⟩, fun b hb => ?_, m1, h1, rfl, g1, w1, tl⟩
    have e : b = s1.heap.objs.size := by simpa using hb
    subst e
    exact I1.fpOk (Nat.le_refl _) (I1.hok.fresh (Nat.le_refl _))
  cases hal : y.cps.all (· < 128)
  · exact wpAny_pyIter_wide hal (fin "str_iterator" _ rfl rfl rfl (by decide) (fun A' hA => Walks.strWide hA _ y tt) fun A i s Q E st h => wpAny_pyIter_striter_wide st h)
  · exact wpAny_pyIter_ascii hal (fin "str_ascii_iterator" _ rfl rfl rfl (by decide) (fun A' hA => Walks.strAscii hA _ y tt) fun A i s Q E st h => wpAny_pyIter_striter_ascii st h)
end
end Ng
end
section
namespace Ng
open PySem PySem.Spec PyProof.Rows L2
section
variable {X : Cx} {pins : List (Addr × Obj)} {σ : Sg} {H : Hp} {s : Shared}
end
section
variable {Y : Cx} {kx vx : PySem.Expr} {fk fv : Ev -> Hh -> Rs D} {n0 acc : Nat}
end
section
variable {X : Cx} {N' : List Str} {scope : Scope} {cap : List Nat} {kx vx tg1 iter1 : PySem.Expr} {pos : Pos} {t1 : Tg} {fk fv : Ev -> Hh -> Rs D}
end
section
variable {N : List Str} {sc : Scope} {G : Gs}
end
end Ng
end
section
namespace Ng
open PySem PySem.Spec PyProof.Rows L2
section
variable {N : List Str} {sc : Scope} {G : Gs}
theorem dE_fmt {a : E} {y : PySem.Expr} {pos : Pos} (h_a : SE N sc G a y) : SE N sc G (.fmt a) (.FormattedValue y (-1) none pos) := fun {X ca cl} xo go => by
  have p : PE X (.FormattedValue y (-1) none pos) (TDE X.K (ev G cl (.fmt a))) := fun pins s σ H Q I q => by
    obtain ⟨m, r, h, d, h', w, st, e, c⟩ := q
    rw [ev] at e
    obtain ⟨dx, h1, e1, e⟩ := Rs.bind_ok e
    refine wpAny_FormattedValue_plain (thn ((h_a xo go).1 pins s σ H (fun v H1 => ∃ m1, Gr X.K m H m1 H1 /\ Wd X.K m1 h1 H1 /\ RD X.K m1 H1 dx v) I ⟨m, r, h, dx, h1, w, st, e1, fun m' v H' g w' rv => ⟨m', g, w', rv⟩⟩) fun u s1 ⟨v, H1, I1, rv, m1, g1, w1, rd⟩ => ?_)
    unfold fmtD at e
    split at e
    · split at e <;> first | (cases e; done) | skip
      rename_i hi
      cases e
      cases rd
      obtain ⟨t, rfl⟩ := rv
      exact wpAny_formatField_int hi ⟨.str _, H1, I1.tok _, ⟨_, rfl⟩, c m1 _ H1 g1 w1 (.str _)⟩
    · split at e <;> first | (cases e; done) | skip
      rename_i hz
      cases e
      cases rd
      obtain ⟨t, rfl⟩ := rv
      exact wpAny_formatField_str ⟨.str _, H1, I1, ⟨_, rfl⟩, c m1 _ H1 g1 w1 (.str _)⟩ ⟨.str _, H1, I1.tok _, ⟨_, rfl⟩, c m1 _ H1 g1 w1 (.str _)⟩ (Nat.le_trans hz (by decide))
    · cases e
  exact ⟨p, tOf p fun _ => rfl⟩
def SJs (N : List Str) (sc : Scope) (G : Gs) (l : Es) (es : List PySem.Expr) : Prop := ∀ {X : Cx} {ca : Nat -> Addr} {cl : Cl}, XOk X N sc -> GOk X G ca cl -> ∀ (pins : List (Addr × Obj)) (σ : Sg) (r : Ev) (acc : Str) (ds : List D) (xs : List Str) (m : List Addr) (h h' : Hh) (H : Hp) (s : Shared) (Q : Str -> Shared -> Prop),
  Inv X pins σ H s -> Wd X.K m h H -> RSt X.K m H r σ -> evs G cl l r h = .ok ds h' -> strsD ds = some xs -> acc.length + (xs.map (·.length)).sum <= sizeLine -> (∀ m' H' s', Inv X pins σ H' s' -> Gr X.K m H m' H' -> Wd X.K m' h' H' -> Q (acc ++ catS xs) s') -> Joins (model X.prog X.w) X.A X.xe (evalEach es X.env) acc Q s
theorem sj_nil : SJs N sc G .nil [] := fun {X ca cl} xo go pins σ r acc ds xs m h h' H s Q I w st e1 e2 hz q => by
  cases e1; cases e2
  have := q m H s I .refl w
  rw [show acc ++ catS [] = acc from Str.append_empty acc] at this
  exact this
theorem sj_cons {c : E} {l : Es} {e : PySem.Expr} {es : List PySem.Expr} (he : SE N sc G c e) (hl : SJs N sc G l es) : SJs N sc G (.cons c l) (e :: es) := fun {X ca cl} xo go pins σ r acc ds xs m h h' H s Q I w st e1 e2 hz q => by
  rw [evs] at e1
  obtain ⟨d, h1, e0, e1⟩ := Rs.bind_ok e1
  obtain ⟨ds', h2, e3, e1⟩ := Rs.bind_ok e1
  cases e1
  obtain ⟨x, rfl⟩ : ∃ x, d = .str x := by cases d <;> first | exact ⟨_, rfl⟩ | (cases e2; done)
  simp only [strsD, Option.map_eq_some_iff] at e2
  obtain ⟨xs', e2, rfl⟩ := e2
  rw [List.map_cons, List.sum_cons] at hz
  refine thn ((he xo go).1 pins s σ H (fun v H1 => ∃ m1, Gr X.K m H m1 H1 /\ Wd X.K m1 h1 H1 /\ RD X.K m1 H1 (.str x) v) I ⟨m, r, h, _, h1, w, st, e0, fun m' v H' g w' rv => ⟨m', g, w', rv⟩⟩) fun u s1 ⟨v, H1, I1, rv, m1, g1, w1, rd⟩ => ?_
  cases rd
  obtain ⟨t, rfl⟩ := rv
  have ea : (acc ++ x).length = acc.length + x.length := strLen_append ..
  refine ⟨x, t, rfl, by omega, hl xo go pins σ r (acc ++ x) ds' xs' m1 h1 _ H1 s1 Q I1 w1 (st.mono g1) e3 e2 (by omega) fun m' H' s' I' g' w' => ?_⟩
  rw [Str.append_assoc]
  exact q m' H' s' I' (g1.trans g') w'
theorem dE_fst {l : Es} {a b : PySem.Expr} {es : List PySem.Expr} {pos : Pos} (h_l : SJs N sc G l (a :: b :: es)) : SE N sc G (.fst l) (.JoinedStr (a :: b :: es) pos) := fun {X ca cl} xo go => by
  have p : PE X (.JoinedStr (a :: b :: es) pos) (TDE X.K (ev G cl (.fst l))) := fun pins s σ H Q I q => by
    obtain ⟨m, r, h, d, h', w, st, e, c⟩ := q
    rw [ev] at e
    obtain ⟨ds, h1, e1, e⟩ := Rs.bind_ok e
    unfold fstD at e
    split at e <;> first | (cases e; done) | skip
    rename_i xs ex
    split at e <;> first | (cases e; done) | skip
    rename_i hz
    cases e
    have hz' : (xs.map (·.length)).sum <= sizeLine := Nat.le_trans hz (by decide)
    refine wpAny_JoinedStr (h_l xo go pins σ r Str.empty ds xs m h _ H s _ I w st e1 ex (by show 0 + _ <= _; omega) fun m' H' s' I' g' w' => ?_)
    rw [Str.empty_append]
    have el : ∀ l : List Str, (catS l).length = (l.map (·.length)).sum := fun l => by
      induction l with
      | nil => rfl
      | cons x l ih => rw [catS, strLen_append, ih, List.map_cons, List.sum_cons]
    exact ⟨by rw [el]; exact hz', .str _, H', I'.tok _, ⟨_, rfl⟩, c m' _ H' g' w' (.str _)⟩
  exact ⟨p, tOf p fun _ => rfl⟩
theorem callSof {X : Cx} : CallR X (.type "str") (rDc X.K (one fmtD)) := by
  intro pins s σ H xs us Q I rs ⟨m, h, ds, d, h', w, r, e, c⟩
  obtain ⟨x, v, rfl, r1, e⟩ := one_of r e
  unfold fmtD at e
  split at e
  · split at e <;> first | (cases e; done) | skip
    rename_i hi
    cases e
    cases r1
    exact call_str_int pins s σ H _ us Q I rs ⟨_, rfl, hi, c m _ H .refl w (.str _)⟩
  · split at e <;> first | (cases e; done) | skip
    cases e
    cases r1
    obtain ⟨u, rfl, t, rfl⟩ := vals1 rs
    exact PySem.P.str_of_str ⟨.str _, H, I, ⟨_, rfl⟩, c m _ H .refl w (.str _)⟩
  · cases e
theorem callItx {X : Cx} : CallR X (.type "int") (rDc X.K (one itxD)) := by
  intro pins s σ H xs us Q I rs ⟨m, h, ds, d, h', w, r, e, c⟩
  obtain ⟨x, v, rfl, r1, e⟩ := one_of r e
  unfold itxD at e
  split at e <;> first | (cases e; done) | skip
  split at e <;> first | (cases e; done) | skip
  rename_i hz
  split at e <;> first | (cases e; done) | skip
  rename_i i ei
  cases e
  cases r1
  obtain ⟨u, rfl, t, rfl⟩ := vals1 rs
  exact PySem.W.KIN.call_text ei hz ⟨.int _, H, I.tok _, ⟨_, rfl⟩, c m _ H .refl w (.int _)⟩
theorem tcb_one {K : PySem.W.Frag} {cl : Cl} {a c : E} {k : D -> Hh -> Rs D} (hf : ∀ r h, ev G cl c r h = (ev G cl a r h).bind fun x h => k x h) (s : Sg) (H : Hp) (Q : VK) (q : TDE K (ev G cl c) s H Q) : tCB (rDc K (one k)) (TDA K (evs G cl (.cons a .nil))) s H Q := by
  obtain ⟨m, r, hh, d, h', w, st, e1, cc⟩ := q
  rw [hf] at e1
  obtain ⟨x, h1, e0, e1⟩ := Rs.bind_ok e1
  refine ⟨m, r, hh, [x], h1, w, st, ?_, fun m' vs H' g w' rd => ⟨m', h1, [x], d, h', w', rd, e1, fun m2 v H2 g2 => cc m2 v H2 (g.trans g2)⟩⟩
  rw [evs, e0]; rfl
theorem dE_sof {a : E} {y : PySem.Expr} {np pos : Pos} (h2 : glB sc "str" = true) (h3 : noStar y = true) (h_a : SE N sc G a y) : SE N sc G (.sof a) (.Call (.Name "str" np) [y] [] pos) := fun {X ca cl} xo go => by
  have hl := sa_cons h3 h_a (sa_nil (N := N) (sc := sc) (G := G))
  have p : PE X (.Call (.Name "str" np) [y] [] pos) (TDE X.K (ev G cl (.sof a))) := (pe_callTy callSof (glB_ok xo h2) (go.ty .str) (boot_ty .str) (hl.2 xo go) (ty_dbg .str).2 (ty_dbg .str).1 (star_one [] h3) (back_no pos rfl)).wk fun s H Q q => tcb_one (fun r h => by rw [ev]) s H Q q
  exact ⟨p, tOf p fun _ => rfl⟩
theorem dE_itx {a : E} {y : PySem.Expr} {np pos : Pos} (h2 : glB sc "int" = true) (h3 : noStar y = true) (h_a : SE N sc G a y) : SE N sc G (.itx a) (.Call (.Name "int" np) [y] [] pos) := fun {X ca cl} xo go => by
  have hl := sa_cons h3 h_a (sa_nil (N := N) (sc := sc) (G := G))
  have p : PE X (.Call (.Name "int" np) [y] [] pos) (TDE X.K (ev G cl (.itx a))) := (pe_callTy callItx (glB_ok xo h2) (go.ty .int) (boot_ty .int) (hl.2 xo go) (ty_dbg .int).2 (ty_dbg .int).1 (star_one [] h3) (back_no pos rfl)).wk fun s H Q q => tcb_one (fun r h => by rw [ev]) s H Q q
  exact ⟨p, tOf p fun _ => rfl⟩
theorem flat_arr (x : Array Nat) : ∀ (n : Nat) (acc : Array Nat), (List.replicate n x).foldl (· ++ ·) acc = acc ++ (List.replicate n x.toList).flatten.toArray := by
  intro n
  induction n with
  | zero => intro acc; simp
  | succ n ih =>
    intro acc
    rw [List.replicate_succ, List.foldl_cons, ih, List.replicate_succ, List.flatten_cons, Array.append_assoc]
    congr 1
    apply Array.toList_inj.mp
    simp
theorem opRep {X : Cx} : OpR X (binaryOp .Mult) (rD X.K repD) := by
  intro pins s σ H x y v u Q I rx ry ⟨m, h, dx, dy, d, h', w, r1, r2, e, c⟩
  unfold repD at e
  split at e <;> first | (cases e; done) | skip
  rename_i z i
  split at e <;> first | (cases e; done) | skip
  rename_i hz
  cases e
  cases r1; cases r2
  obtain ⟨t, rfl⟩ := rx
  obtain ⟨t', rfl⟩ := ry
  obtain ⟨a1, a2, a3⟩ := hz
  have key : ∀ t k, EP X pins σ Q (.str ⟨(List.replicate i.toNat z.cps.toList).flatten.toArray⟩ t) { s with toks := k } := fun t k => ⟨.str _, H, I.tok k, ⟨_, rfl⟩, c m _ H .refl w (.str _)⟩
  have mm : z.length * i.toNat <= 1000000 := Nat.le_trans (Nat.mul_le_mul a3 (show i.toNat <= 1000 by omega)) (by decide)
  refine PySem.P.mul_str (by rw [decide_eq_false (by omega), decide_eq_false (by omega)]; rfl) (fun h1 _ => ?_) (fun _ _ => ?_) ?_
  · have e1 : (1000 : Int) <= (2 ^ 63 - 1) / i := (Int.le_ediv_iff_mul_le (by omega)).mpr (by omega)
    omega
  · show decide (_ > sizeLine) = false
    rw [decide_eq_false]
    have : (1000000 : Nat) <= sizeLine := by decide
    omega
  · split
    · rename_i h0
      obtain rfl : i = 0 := by omega
      exact ⟨by decide, key _ _⟩
    · split
      · rename_i h1
        rw [Bool.or_eq_true, beq_iff_eq, beq_iff_eq] at h1
        have ez : (⟨(List.replicate i.toNat z.cps.toList).flatten.toArray⟩ : Str) = z := by
          rcases h1 with rfl | h1
          · simp
          · have : z.cps.toList = [] := List.length_eq_zero_iff.mp (by rw [Array.length_toList]; exact h1)
            have hz : z = ⟨#[]⟩ := Str.ext' (Array.toList_inj.mp this)
            rw [hz]
            simp
        have k := key t s.toks
        rw [ez] at k
        exact k
      · rw [flat_arr]
        have k := key s.toks (s.toks + 1)
        simp only [Array.empty_append]
        refine ⟨?_, k⟩
        show (List.replicate i.toNat z.cps.toList).flatten.toArray.size <= sizeLine
        rw [List.size_toArray, List.length_flatten, List.map_replicate, List.sum_replicate_nat, Array.length_toList]
        have : (1000000 : Nat) <= sizeLine := by decide
        have e : z.cps.size = z.length := rfl
        rw [e, Nat.mul_comm]
        omega
theorem dE_rep {a b : E} {x y : PySem.Expr} {pos : Pos} (h_a : SE N sc G a x) (h_b : SE N sc G b y) : SE N sc G (.rep a b) (.BinOp x .Mult y pos) := fun {X ca cl} xo go => by
  have p : PE X (.BinOp x .Mult y pos) (TDE X.K (ev G cl (.rep a b))) := (pe_op opRep (h_a xo go).1 (h_b xo go).1).wk (TDE.op fun r h => by simp only [ev])
  exact ⟨p, tOf p fun _ => rfl⟩
theorem split_one {prog : Program} {w : World} {A : Around} {E : Value -> Shared -> Prop} {s : Shared} {x y : Str} {t u : Tok} {Q : Value -> Shared -> Prop} (hy : (y.length == 0) = false)
    (hq : ∀ (l : List (Str × Tok)) k, l.map (·.1) = Txt.split x y -> Q (.ref s.heap.objs.size) { s with heap := s.heap.push { cls := .type "list", data := .seq (strValues l).toArray }, toks := k }) (hsz : x.length + 2 <= sizeLine) :
    wpAny (model prog w) A (call (.builtin "str.split") [.str x t, .str y u]) Q E s := by
  have hn : (Builtin.Str.partsBetween x (Builtin.Str.occurrences x y 0 x.length (x.length + 1)) y.length).length <= sizeLine := by
    rw [length_partsBetween]
    have := StrLaws.occ_length_le x y 0 x.length (x.length + 1)
    omega
  cases h1 : (decide (x.length < y.length) || decide (Builtin.Str.strKind x < Builtin.Str.strKind y))
  · cases hf : (Builtin.Str.occurrences x y 0 x.length (x.length + 1)).isEmpty
    · refine call_meets F.slot_str_split (typeIs_str _ _ _) F.entry_str_split (F.args_str_split_2 _ _) (meets_str_split_sep x y t u h1 hy hf (by omega) hn) ?_
      show wants Q E _ { s with toks := _, heap := s.heap.push { cls := .type "list", data := .seq (strsFrom s.toks (Builtin.Str.partsBetween x (Builtin.Str.occurrences x y 0 x.length (x.length + 1)) y.length)).toArray } }
      rw [strsFrom_eq]
      exact hq (numbered s.toks _) _ ((numbered_texts _ _).trans ((if_neg (ne_true_of_eq_false h1)).trans (if_neg (ne_true_of_eq_false hf))).symm)
    · exact call_meets F.slot_str_split (typeIs_str _ _ _) F.entry_str_split (F.args_str_split_2 _ _) (meets_str_split_not_found x y t u h1 hy hf)
        (hq [(x, t)] s.toks ((if_neg (ne_true_of_eq_false h1)).trans (if_pos hf)).symm)
  · exact call_meets F.slot_str_split (typeIs_str _ _ _) F.entry_str_split (F.args_str_split_2 _ _) (meets_str_split_cannot_occur x y t u h1)
      (hq [(x, t)] s.toks (if_pos h1).symm)
theorem strVals : ∀ l : List (Str × Tok), Vals ((l.map (·.1)).map V.str) (strValues l)
  | [] => .nil
  | p :: l => .cons ⟨p.2, rfl⟩ (strVals l)
theorem RDs.strs {K : PySem.W.Frag} {m : List Addr} {H : Hp} : ∀ (ns : List Str), RDs K m H (ns.map D.str) (ns.map V.str)
  | [] => .nil
  | n :: ns => .cons (.str n) (RDs.strs ns)
theorem split_len (x y : Str) : (Txt.split x y).length <= x.length + 2 := by
  unfold Txt.split
  split
  · show 1 <= _; omega
  · split
    · show 1 <= _; omega
    · rw [length_partsBetween]
      have := StrLaws.occ_length_le x y 0 x.length (x.length + 1)
      omega
def rTx (K : PySem.W.Frag) (c : Str) (k : Str -> D -> Hh -> Rs D) : V -> List V -> Hp -> VK -> Prop := fun x vs H Q => vs = [.str c] /\ ∃ m h dx d h', Wd K m h H /\ RD K m H dx x /\ k c dx h = .ok d h' /\ ∀ m' v H', Gr K m H m' H' -> Wd K m' h' H' -> RD K m' H' d v -> Q v H'
theorem mt_split {X : Cx} (c : Str) : MtR X "str.split" (rTx X.K c splD) := by
  intro pins s σ H x vs v us Q I rx rv ⟨ev, m, h, dx, d, h', w, r1, e, cc⟩
  subst ev
  obtain ⟨u, rfl, t, rfl⟩ := vals1 rv
  unfold splD at e
  split at e <;> first | (cases e; done) | skip
  rename_i z
  split at e <;> first | (cases e; done) | skip
  rename_i hz
  cases e
  cases r1
  obtain ⟨t', rfl⟩ := rx
  have sl : (100000 : Nat) + 2 <= sizeLine := by decide
  refine split_one (by rw [hz.2]; rfl) (fun l k el => ?_) (by omega)
  have ln := split_len z c
  refine ⟨.ref _, _, I.lnew (t' := k) (strVals l) (by rw [List.length_map, el]; omega), rfl, ?_⟩
  rw [el]
  obtain ⟨w2, g2⟩ := w.lstNew (I.hok.fresh (Nat.le_refl _)) (RDs.strs (Txt.split z c))
  exact cc _ _ _ g2 w2 (.ref (by rw [<- w.len]; simp))
theorem mt_starts {X : Cx} (c : Str) : MtR X "str.startswith" (rTx X.K c stwD) := by
  intro pins s σ H x vs v us Q I rx rv ⟨ev, m, h, dx, d, h', w, r1, e, cc⟩
  subst ev
  obtain ⟨u, rfl, t, rfl⟩ := vals1 rv
  unfold stwD at e
  split at e <;> first | (cases e; done) | skip
  cases e
  cases r1
  obtain ⟨t', rfl⟩ := rx
  exact SC.startswith ⟨.bl _, H, I, rfl, cc m _ H .refl w (.bl _)⟩
theorem tbm_tx {K : PySem.W.Frag} {cl : Cl} {o cE : E} {c : Str} {k : Str -> D -> Hh -> Rs D} (hk : ∀ d h, k c d h ≠ .bad -> ∃ z, d = .str z) (hf : ∀ r h, ev G cl cE r h = (ev G cl o r h).bind fun x h => k c x h) (s : Sg) (H : Hp) (Q : VK) (q : TDE K (ev G cl cE) s H Q) : tBM K "str" (rTx K c k) (TDE K (ev G cl o)) (tCons (fun _ H Q => Q (.str c) H) tNil) s H Q := by
  obtain ⟨m, r, hh, d, h', w, st, e1, cc⟩ := q
  rw [hf] at e1
  obtain ⟨x, h1, e0, e1⟩ := Rs.bind_ok e1
  refine ⟨m, r, hh, x, h1, w, st, e0, fun m' v H' g w' rd => ?_⟩
  obtain ⟨z, rfl⟩ := hk x h1 (by rw [e1]; intro z; cases z)
  cases rd
  exact ⟨rfl, rfl, m', h1, .str z, d, h', w', .str z, e1, fun m2 v H2 g2 => cc m2 v H2 (g.trans g2)⟩
theorem dE_spl {o : E} {z c : Str} {pz ap cp kp : Pos} {j : Nat} (h2 : (ap.endLine == cp.line) = true) (h_o : SE N sc G o (.Name z pz)) : SE N sc G (.spl o c) (.Call (.Attribute (.Name z pz) "split" ap) [.Constant (.str c) j kp] [] cp) := fun {X ca cl} xo go => by
  have p : PE X (.Call (.Attribute (.Name z pz) "split" ap) [.Constant (.str c) j kp] [] cp) (TDE X.K (ev G cl (.spl o c))) := (pe_bm PySem.F.plainAttrs_str PySem.F.slot_str_split PySem.F.type_str_split (mt_split c) (h_o xo go).1 (pa_cons pe_str pa_nil rfl) rfl rfl h2 rfl rfl).wk fun s H Q q => tbm_tx (fun d h ne => by cases d <;> first | exact ⟨_, rfl⟩ | exact absurd rfl ne) (fun r h => by rw [ev]) s H Q q
  exact ⟨p, tOf p fun _ => rfl⟩
theorem dE_stw {o : E} {z c : Str} {pz ap cp kp : Pos} {j : Nat} (h2 : (ap.endLine == cp.line) = true) (h_o : SE N sc G o (.Name z pz)) : SE N sc G (.stw o c) (.Call (.Attribute (.Name z pz) "startswith" ap) [.Constant (.str c) j kp] [] cp) := fun {X ca cl} xo go => by
  have p : PE X (.Call (.Attribute (.Name z pz) "startswith" ap) [.Constant (.str c) j kp] [] cp) (TDE X.K (ev G cl (.stw o c))) := (pe_bm PySem.F.plainAttrs_str PySem.F.slot_str_startswith PySem.F.type_str_startswith (mt_starts c) (h_o xo go).1 (pa_cons pe_str pa_nil rfl) rfl rfl h2 rfl rfl).wk fun s H Q q => tbm_tx (fun d h ne => by cases d <;> first | exact ⟨_, rfl⟩ | exact absurd rfl ne) (fun r h => by rw [ev]) s H Q q
  exact ⟨p, tOf p fun _ => rfl⟩
end
end Ng
end
section
namespace Ng
open PySem PySem.Spec PyProof.Rows L2
section
variable {prog : Program} {w : World} {A : Around} {E : Value -> Shared -> Prop} {s : Shared}
theorem nxt_tup {it t : Addr} {i : Nat} {items : Array Value} {x : Value} {Q : Value -> Shared -> Prop} (hit : s.heap.IsTupleIter it t i) (ht : s.heap.IsTuple t items) (hx : items[i]? = some x)
    (hQ : ∀ h', h'.IsTupleIter it t (i + 1) -> Heap.SameBut it s.heap h' -> Q x { s with heap := h' }) : wpAny (model prog w) A (Builtin.SmallTypes.nextOf (.ref it)) Q E s := by
  obtain ⟨o, ho, hc, hd⟩ := id hit
  obtain ⟨ol, hol, _, nl, hdl⟩ := ht
  unfold Builtin.SmallTypes.nextOf
  refine wpAny_bind (wpAny_callSpecial?_slot (name := Str.ofString "__next__") hit.typeIs F.slot_tuple_iterator_next (wpAny_call_entry F.slot_tuple_iterator_next hit.typeIs F.entry_tuple_iterator_next ?_ (F.args_tuple_iterator_next_1 _)))
  show wpAny _ _ (field (.ref it) 0 >>= _) _ _ s
  refine wpAny_bind (wpAny_field ho hd (x := .ref t) rfl ?_)
  show wpAny _ _ (if (Value.ref t == Value.none) = true then _ else _) _ _ s
  rw [if_neg (show ¬ ((Value.ref t == Value.none) = true) from Bool.false_ne_true)]
  show wpAny _ _ (field (.ref it) 1 >>= _) _ _ s
  refine wpAny_bind (wpAny_field ho hd (x := .int i 0) rfl ?_)
  show wpAny _ _ (seqItems? (.ref t) >>= _) _ _ s
  refine wpAny_bind (wpAny_seqItems hol hdl ?_)
  simp only [Int.toNat_natCast, hx]
  exact wpAny_bind (wpAny_setField ho hd (by simp) (wpAny_pure ⟨x, rfl, wpAny_pure (hQ _ ⟨_, Heap.get?_update_self _ ho (Obj.isFreed_of_fields (Obj.data_mapFields hd _)), (Obj.cls_mapFields ..).trans hc, by
    rw [Obj.data_mapFields hd]; simp [rawInt]⟩ (Heap.SameBut.update ..))⟩))
structure ZpAt (h : Heap) (z TI TO i1 i2 l1 l2 : Addr) (k : Nat) (f0 : Value) : Prop where
  hz : IsZip h z TI TO f0
  hTI : IsPair h TI (.ref i1) (.ref i2)
  hTO : ∃ a b, IsPair h TO a b
  h1 : h.IsListIter i1 l1 k
  h2 : h.IsTupleIter i2 l2 k
theorem ZpAt.at {h h' : Heap} {z TI TO i1 i2 l1 l2 : Addr} {k : Nat} {f0 : Value} (Z : ZpAt h z TI TO i1 i2 l1 l2 k f0) (e : ∀ b ∈ [z, TI, TO, i1, i2], ∀ o, h.get? b = some o -> h'.get? b = some o) : ZpAt h' z TI TO i1 i2 l1 l2 k f0 :=
  let ⟨a, b, hTO⟩ := Z.hTO
  ⟨e z (by simp) _ Z.hz, e TI (by simp) _ Z.hTI, ⟨a, b, e TO (by simp) _ hTO⟩, Z.h1.at fun o q => e i1 (by simp) o q, let ⟨o, q, r⟩ := Z.h2; ⟨o, e i2 (by simp) o q, r⟩⟩
theorem zip_nxt {z TI TO i1 i2 l1 l2 : Addr} {k : Nat} {xs ys : Array Value} {x y : Value} {Q : Option Value -> Shared -> Prop} (D : ZipApart z TI TO i1 i2 l1 l2) (Z : ZpAt s.heap z TI TO i1 i2 l1 l2 k .none)
    (hl1 : s.heap.IsList l1 xs) (hl2 : s.heap.IsTuple l2 ys) (hx : xs[k]? = some x) (hy : ys[k]? = some y)
    (hQ : ∀ h', ZpAt h' z TI TO i1 i2 l1 l2 (k + 1) (rawInt s.heap.objs.size) -> IsPair h' s.heap.objs.size x y -> (∀ c o, c ≠ z -> c ≠ TO -> c ≠ i1 -> c ≠ i2 -> s.heap.get? c = some o -> h'.get? c = some o) -> Q (some (.ref s.heap.objs.size)) { s with heap := h' }) :
    wpAny (model prog w) A (pyNext (.ref z)) Q E s := by
  obtain ⟨hz, hTI, ⟨a, b, hTO⟩, h1, h2⟩ := Z
  have hT : s.TypeIs (.ref z) "zip" := ⟨_, hz, rfl⟩
  unfold pyNext
  refine wpAny_bind (wpAny_attempt (wpAny_callSpecial?_slot (name := Str.ofString "__next__") hT F.slot_zip_next (wpAny_call_entry F.slot_zip_next hT F.entry_zip_next ?_ (F.args_zip_next_1 _))))
  show wpAny _ _ (field (.ref z) 2 >>= _) _ _ _
  refine wpAny_bind (wpAny_field hz rfl (x := .bool false) rfl ?_)
  show wpAny _ _ (field (.ref z) 3 >>= _) _ _ _
  refine wpAny_bind (wpAny_field hz rfl (x := .ref TI) rfl (wpAny_bind (wpAny_seqItems hTI rfl ?_)))
  show wpAny _ _ (Builtin.SmallTypes.ownedTupleIsFree (.ref z) >>= _) _ _ _
  refine wpAny_bind ?_
  unfold Builtin.SmallTypes.ownedTupleIsFree
  refine wpAny_bind (wpAny_field hz rfl (x := .none) rfl (wpAny_pure ?_))
  simp only [if_true]
  refine wpAny_bind (wpAny_rule (wpAny_bind (wpAny_field hz rfl (x := .ref TO) rfl (wpAny_bind (wpAny_setField_rec hz (by simp) fun g1 z1 s1 => wpAny_bind ?_)))))
  replace z1 : IsZip g1 z TI TO .ellipsis := z1
  simp only [List.zipIdx_cons, List.zipIdx_nil, List.forIn_cons, List.forIn_nil]
  refine wpAny_bind (wpAny_bind (wpAny_onRaise ?_))
  show wpAny _ _ (Builtin.SmallTypes.nextOf (.ref i1) >>= _) _ _ _
  refine wpAny_bind (wpAny_nextOf_list_item (h1.extBut s1.extBut D.i1z) (hl1.extBut s1.extBut D.l1z) hx fun g2 a2 s2 => wpAny_pure ?_)
  have t2 : IsPair g2 TO a b := s2.extBut _ _ D.TOi1 (s1.extBut _ _ D.TOz hTO)
  refine wpAny_bind (wpAny_seqItems t2 rfl ?_)
  refine wpAny_bind (wpAny_updateSeq_pair t2 fun g3 t3 s3 => ?_)
  refine wpAny_bind (wpAny_letGo (wpAny_pure ?_))
  replace t3 : IsPair g3 TO x b := t3
  refine wpAny_bind (wpAny_bind (wpAny_onRaise ?_))
  show wpAny _ _ (Builtin.SmallTypes.nextOf (.ref i2) >>= _) _ _ _
  refine wpAny_bind (nxt_tup (((h2.extBut s1.extBut D.i2z).extBut s2.extBut D.i12.symm).extBut s3.extBut D.TOi2.symm) (((hl2.extBut s1.extBut D.l2z).extBut s2.extBut D.l2i1).extBut s3.extBut D.l2TO) hy fun g4 a4 s4 => wpAny_pure ?_)
  have t4 : IsPair g4 TO x b := s4.extBut _ _ D.TOi2 t3
  refine wpAny_bind (wpAny_seqItems t4 rfl ?_)
  refine wpAny_bind (wpAny_updateSeq_pair t4 fun g5 t5 s5 => ?_)
  replace t5 : IsPair g5 TO x y := t5
  refine wpAny_bind (wpAny_letGo (wpAny_pure (wpAny_pure ?_)))
  refine wpAny_bind (wpAny_seqItems t5 rfl ?_)
  refine wpAny_bind (wpAny_newTuple ?_)
  have sz : g5.objs.size = s.heap.objs.size := by rw [s5.1, s4.1, s3.1, s2.1, s1.1]
  have z5 : IsZip g5 z TI TO .ellipsis := s5.extBut _ _ D.TOz.symm (s4.extBut _ _ D.i2z.symm (s3.extBut _ _ D.TOz.symm (s2.extBut _ _ D.i1z.symm z1)))
  have k5 : ∀ c o, c ≠ z -> c ≠ TO -> c ≠ i1 -> c ≠ i2 -> s.heap.get? c = some o -> g5.get? c = some o := fun c o c1 c2 c3 c4 e => s5.extBut _ _ c2 (s4.extBut _ _ c4 (s3.extBut _ _ c2 (s2.extBut _ _ c3 (s1.extBut _ _ c1 e))))
  have a5 : g5.IsListIter i1 l1 (k + 1) := ((a2.extBut s3.extBut D.TOi1.symm).extBut s4.extBut D.i12).extBut s5.extBut D.TOi1.symm
  have b5 : g5.IsTupleIter i2 l2 (k + 1) := a4.extBut s5.extBut D.TOi2.symm
  have zl : z < g5.objs.size := Heap.lt_size z5
  show wpAny _ _ (Builtin.SmallTypes.ownedTupleHandOut (.ref z) (.ref g5.objs.size) >>= _) _ _ _
  refine wpAny_bind ?_
  unfold Builtin.SmallTypes.ownedTupleHandOut
  have z6 : IsZip (g5.push { cls := .type "tuple", data := .seq #[x, y] }) z TI TO .ellipsis := Heap.get?_push_of_some _ z5
  refine wpAny_bind (wpAny_setField_rec z6 (by simp) fun g7 z7 s7 => ?_)
  replace z7 : IsZip g7 z TI TO (rawInt g5.objs.size) := z7
  refine wpAny_setField_rec z7 (by simp) fun g8 z8 s8 => ?_
  replace z8 : IsZip g8 z TI TO (rawInt g5.objs.size) := z8
  have up : ∀ c o, c ≠ z -> g5.get? c = some o -> g8.get? c = some o := fun c o c1 e => s8.extBut _ _ c1 (s7.extBut _ _ c1 (Heap.get?_push_of_some _ e))
  have T8 : IsPair g8 g5.objs.size x y := s8.extBut _ _ (Nat.ne_of_gt zl) (s7.extBut _ _ (Nat.ne_of_gt zl) (Heap.get?_push_size _ rfl))
  rw [sz] at z8 T8
  refine wpAny_pure ⟨_, rfl, wpAny_pure ?_⟩
  show Q (some (.ref g5.objs.size)) _
  rw [sz]
  exact hQ g8 ⟨z8, up _ _ D.TIz (k5 _ _ D.TIz D.TITO D.TIi1 D.TIi2 hTI), ⟨x, y, up _ _ D.TOz t5⟩, a5.at fun o e => up _ o D.i1z e, let ⟨o, q, r⟩ := b5; ⟨o, up _ o D.i2z q, r⟩⟩ T8 fun c o c1 c2 c3 c4 e => up c o c1 (k5 c o c1 c2 c3 c4 e)
theorem zip_fin {z TI TO i1 i2 l1 l2 : Addr} {k : Nat} {xs : Array Value} {Q : Option Value -> Shared -> Prop} (hh : A.handled = none) (D : ZipApart z TI TO i1 i2 l1 l2) (Z : ZpAt s.heap z TI TO i1 i2 l1 l2 k .none)
    (hl1 : s.heap.IsList l1 xs) (hx : xs[k]? = none) (hQ : ∀ h', (∀ c o, c ≠ z -> c ≠ TO -> c ≠ i1 -> c ≠ i2 -> s.heap.get? c = some o -> h'.get? c = some o) -> Q none { s with heap := h' }) : wpAny (model prog w) A (pyNext (.ref z)) Q E s := by
  obtain ⟨hz, hTI, ⟨a, b, hTO⟩, h1, h2⟩ := Z
  have hT : s.TypeIs (.ref z) "zip" := ⟨_, hz, rfl⟩
  unfold pyNext
  refine wpAny_bind (wpAny_attempt (wpAny_callSpecial?_slot (name := Str.ofString "__next__") hT F.slot_zip_next (wpAny_call_entry F.slot_zip_next hT F.entry_zip_next ?_ (F.args_zip_next_1 _))))
  show wpAny _ _ (field (.ref z) 2 >>= _) _ _ _
  refine wpAny_bind (wpAny_field hz rfl (x := .bool false) rfl ?_)
  show wpAny _ _ (field (.ref z) 3 >>= _) _ _ _
  refine wpAny_bind (wpAny_field hz rfl (x := .ref TI) rfl (wpAny_bind (wpAny_seqItems hTI rfl ?_)))
  show wpAny _ _ (Builtin.SmallTypes.ownedTupleIsFree (.ref z) >>= _) _ _ _
  refine wpAny_bind ?_
  unfold Builtin.SmallTypes.ownedTupleIsFree
  refine wpAny_bind (wpAny_field hz rfl (x := .none) rfl (wpAny_pure ?_))
  simp only [if_true]
  refine wpAny_bind (wpAny_rule (wpAny_bind (wpAny_field hz rfl (x := .ref TO) rfl (wpAny_bind (wpAny_setField_rec hz (by simp) fun g1 z1 s1 => wpAny_bind ?_)))))
  replace z1 : IsZip g1 z TI TO .ellipsis := z1
  simp only [List.zipIdx_cons, List.zipIdx_nil, List.forIn_cons, List.forIn_nil]
  refine wpAny_bind (wpAny_bind (wpAny_onRaise ?_))
  show wpAny _ _ (Builtin.SmallTypes.nextOf (.ref i1) >>= _) _ _ _
  refine wpAny_bind (wpAny_nextOf_list_end hh (h1.extBut s1.extBut D.i1z) (hl1.extBut s1.extBut D.l1z) hx fun g2 e s2 he => ?_)
  obtain ⟨oe, hoe, hce⟩ := he
  have z2 : IsZip g2 z TI TO .ellipsis := s2 _ _ D.i1z.symm z1
  have hez : e ≠ z := fun x => by subst x; rw [z2] at hoe; cases hoe; simp at hce
  refine wpAny_setField_rec z2 (by simp) fun g3 _ s3 => ?_
  refine wpAny_bind (wpAny_isInstance (T := "StopIteration") (b := true) ⟨oe, s3.extBut _ _ hez hoe, hce⟩ isSubtype_stop ?_)
  exact wpAny_pure (hQ _ fun c o c1 _ c3 _ x => s3.extBut _ _ c1 (s2 _ _ c3 (s1.extBut _ _ c1 x)))
abbrev zp1 (h : Heap) (l1 : Addr) : Heap := h.push { cls := .type "list_iterator", data := .fields #[.ref l1, .int 0 0] }
abbrev zp2 (h : Heap) (l1 l2 : Addr) : Heap := (zp1 h l1).push { cls := .type "tuple_iterator", data := .fields #[.ref l2, .int 0 0] }
abbrev zp3 (h : Heap) (l1 l2 : Addr) : Heap := (zp2 h l1 l2).push { cls := .type "tuple", data := .seq #[.ref h.objs.size, .ref (zp1 h l1).objs.size] }
abbrev zp4 (h : Heap) (l1 l2 : Addr) : Heap := (zp3 h l1 l2).push { cls := .type "tuple", data := .seq #[.none, .none] }
abbrev zp5 (h : Heap) (l1 l2 : Addr) : Heap := (zp4 h l1 l2).push { cls := .type "zip", data := .fields #[.none, .bool false, .bool false, .ref (zp2 h l1 l2).objs.size, .ref (zp3 h l1 l2).objs.size] }
theorem zip_new (l1 l2 : Addr) (xs ys : Array Value) : Meets (Builtin.«zip.__new__» ⟨[.type "zip", .ref l1, .ref l2], []⟩) (fun _ R s => s.heap.IsList l1 xs /\ s.heap.IsTuple l2 ys /\ R (.ok (.ret (.ref (zp4 s.heap l1 l2).objs.size))) { s with heap := zp5 s.heap l1 l2 }) :=
  .of_wp fun prog w A R s h => by
    obtain ⟨hp, g, d, tk, os⟩ := s; obtain ⟨hl1, hl2, h⟩ := h
    have hsub := sub_zip
    have hL1 : Heap.IsList (Shared.heap ⟨hp, g, d, tk, os⟩) l1 xs := hl1
    have hL2 : Heap.IsTuple (Shared.heap ⟨hp.push { cls := .type "list_iterator", data := .fields #[.ref l1, .int 0 0] }, g, d, tk, os⟩) l2 ys := Heap.IsTuple.push hl2 _
    wp_walk using wpAny_pyIter_list hL1, wpAny_pyIter_tuple hL2
    exact ⟨_, rfl, h⟩
theorem call_zip {l1 l2 : Addr} {xs ys : Array Value} {Q : Value -> Shared -> Prop} (hl1 : s.heap.IsList l1 xs) (hl2 : s.heap.IsTuple l2 ys)
    (h : ∀ h', ZpAt h' (s.heap.objs.size + 4) (s.heap.objs.size + 2) (s.heap.objs.size + 3) s.heap.objs.size (s.heap.objs.size + 1) l1 l2 0 .none -> (∀ c o, s.heap.get? c = some o -> h'.get? c = some o) -> Q (.ref (s.heap.objs.size + 4)) { s with heap := h' }) :
    wpAny (model prog w) A (call (.type "zip") [.ref l1, .ref l2]) Q E s := by
  refine callType_new F.called_zip (by decide) (F.typeCall_zip_2 _ _) (F.newCall_zip_2 _ _) (fun obj => F.args_object_init_3 obj _ _) F.entry_zip_new (zip_new l1 l2 xs ys) ⟨hl1, hl2, ?_⟩
  have z1 : (zp1 s.heap l1).objs.size = s.heap.objs.size + 1 := Heap.size_push ..
  have z2 : (zp2 s.heap l1 l2).objs.size = s.heap.objs.size + 2 := by rw [Heap.size_push, z1]
  have z3 : (zp3 s.heap l1 l2).objs.size = s.heap.objs.size + 3 := by rw [Heap.size_push, z2]
  have z4 : (zp4 s.heap l1 l2).objs.size = s.heap.objs.size + 4 := by rw [Heap.size_push, z3]
  have up : ∀ {g : Heap} {o : Obj} {b : Addr} {u : Obj}, g.get? b = some u -> (g.push o).get? b = some u := fun e => Heap.get?_push_of_some _ e
  have g5 : (zp5 s.heap l1 l2).get? (zp4 s.heap l1 l2).objs.size = some _ := Heap.get?_push_size _ rfl
  have g4 : (zp5 s.heap l1 l2).get? (zp3 s.heap l1 l2).objs.size = some _ := up (Heap.get?_push_size _ rfl)
  have g3 : (zp5 s.heap l1 l2).get? (zp2 s.heap l1 l2).objs.size = some _ := up (up (Heap.get?_push_size _ rfl))
  have g2 : (zp5 s.heap l1 l2).get? (zp1 s.heap l1).objs.size = some _ := up (up (up (Heap.get?_push_size _ rfl)))
  have g1 : (zp5 s.heap l1 l2).get? s.heap.objs.size = some _ := up (up (up (up (Heap.get?_push_size _ rfl))))
  show _ /\ _
  rw [z2, z3, z4] at g5
  rw [z1, z2] at g3
  rw [z3] at g4
  rw [z1] at g2
  rw [z4]
  exact ⟨⟨_, g5, rfl⟩, h _ ⟨g5, g3, ⟨_, _, g4⟩, ⟨_, g1, rfl, rfl⟩, ⟨_, g2, rfl, rfl⟩⟩ fun c o x => up (up (up (up (up x))))⟩
end
theorem inv_turned {X : Cx} {pins : List (Addr × Obj)} {σ : Sg} {H : Hp} {s : Shared} {h' : Heap} {t' : Nat} {fp : List Addr} (I : Inv X pins σ H s) (hf : ∀ b ∈ fp, FpOk X pins H b) (k : ∀ b o, b ∉ fp -> s.heap.get? b = some o -> h'.get? b = some o) : Inv X pins σ H { s with heap := h', toks := t' } := by
  have nit : ∀ b u, H b = some u -> b ∉ fp := fun b u e z => by rw [(hf b z).1] at e; cases e
  refine I.step (g' := s.gens) (d' := s.drawn) (ch := fp) (fun b hb => ⟨(hf b hb).2.2.2.1, (hf b hb).2.1, (hf b hb).2.2.2.2.1, (hf b hb).2.2.2.2.2⟩) (fun b o _ _ hc e _ => k b o hc e) (fun b o _ _ hc e _ => ⟨o.slots, k b o hc e⟩) (fun _ _ _ _ n => n)
    (fun b o hc e => ⟨o, k b o hc e⟩) (fun _ _ e => e) (fun _ _ _ e => e) (fun b ps e => ⟨#[], by rw [e]; simp⟩) (fun m hm => ?_) (fun b u e => ?_) I.bare
  · obtain ⟨o, es, ep, ho, r⟩ := hm
    exact ⟨o, es, ep, k _ o (fun z => (hf _ z).2.1 rfl) ho, r⟩
  · refine (I.hok b u e).stay (fun c v hc q => k c v ?_ q) (fun _ q => q) fun _ _ q => q
    rcases hc with z | z
    · rw [z]; exact nit b u e
    · exact nit c _ z
def Itz (K : PySem.W.Frag) (a b : Addr) : It :=
  ⟨fun i H => ∃ xs ys x y, SqL K H a xs /\ SqT K H b ys /\ xs[i]? = some x /\ ys[i]? = some y, fun i H v H' => ∃ p x y, H p = none /\ v = .ref p /\ H' = upd H p (.tup [x, y]) /\ (∀ xs, SqL K H a xs -> xs[i]? = some x) /\ ∀ ys, SqT K H b ys -> ys[i]? = some y, fun i H => ∃ xs, SqL K H a xs /\ xs.length <= i⟩
theorem turn_zip {P : Program} {w : World} {K : PySem.W.Frag} {elts : List PySem.Expr} {x1 : Nat} {pos : Pos} {z TI TO i1 i2 a b : Addr} (D : ZipApart z TI TO i1 i2 a b) :
    Turn P w K (.Tuple elts x1 pos) (Itz K a b) [z, TI, TO, i1, i2] z (fun i h => ZpAt h z TI TO i1 i2 a b i .none) where
  mem := by simp
  obj := fun i h st c hc => by
    obtain ⟨hz, hTI, ⟨p, q, hTO⟩, ⟨o1, e1, _, d1⟩, ⟨o2, e2, _, d2⟩⟩ := st
    simp only [List.mem_cons, List.not_mem_nil, or_false] at hc
    rcases hc with rfl | rfl | rfl | rfl | rfl
    · exact ⟨_, hz, fun v z => nomatch z⟩
    · exact ⟨_, hTI, fun v z => nomatch z⟩
    · exact ⟨_, hTO, fun v z => nomatch z⟩
    · exact ⟨_, e1, fun v z => by rw [d1] at z; cases z⟩
    · exact ⟨_, e2, fun v z => by rw [d2] at z; cases z⟩
  keep := fun i h h' st k => st.at k
  item := by
    intro X hP hw hK hc i pins s σ H E I hf st hg
    subst hP hw hK
    obtain ⟨xs, ys, x, y, q1, q2, hx, hy⟩ := hg
    obtain ⟨us, ru, pu, _⟩ := I.list q1
    obtain ⟨vs, rv, pv, _⟩ := I.tuple q2
    obtain ⟨u, hu, su⟩ := ru.get hx
    obtain ⟨v, hv, sv⟩ := rv.get hy
    refine zip_nxt D st pu.isList pv (x := u) (y := v) (by simpa using hu) (by simpa using hv) fun g h1 h2 h3 => ⟨.ref s.heap.objs.size, rfl, ?_⟩
    refine wpAny_letOwnedTupleGo_zip h1.hz fun g2 h5 h6 => ?_
    have hp : H s.heap.objs.size = none := I.hok.fresh (Nat.le_refl _)
    have lt : ∀ c ∈ [z, TI, TO, i1, i2], c ≠ s.heap.objs.size := fun c hc => by
      obtain ⟨hz, hTI, ⟨p, q, hTO⟩, ⟨o1, e1, _, d1⟩, ⟨o2, e2, _, d2⟩⟩ := st
      simp only [List.mem_cons, List.not_mem_nil, or_false] at hc
      rcases hc with rfl | rfl | rfl | rfl | rfl
      · exact Nat.ne_of_lt (Heap.lt_size hz)
      · exact Nat.ne_of_lt (Heap.lt_size hTI)
      · exact Nat.ne_of_lt (Heap.lt_size hTO)
      · exact Nat.ne_of_lt (Heap.lt_size e1)
      · exact Nat.ne_of_lt (Heap.lt_size e2)
    have I1 : Inv X pins σ (upd H s.heap.objs.size (.tup [x, y])) { s with heap := s.heap.push { cls := .type "tuple", data := .seq #[u, v] } } :=
      I.laid (t' := s.toks) (o := .tup [x, y]) (fun b u q => Heap.get?_push_of_some _ q) (Nat.le_refl _) ⟨by show 2 <= sizeLine; decide, [u, v], .cons su (.cons sv .nil), IsTup.new _ _⟩
    have hf1 : ∀ c ∈ [z, TI, TO, i1, i2], FpOk X pins (upd H s.heap.objs.size (.tup [x, y])) c := fun c hc => ⟨by rw [upd_ne (lt c hc)]; exact (hf c hc).1, (hf c hc).2⟩
    have I2 : Inv X pins σ (upd H s.heap.objs.size (.tup [x, y])) { s with heap := g2 } := inv_turned (s := { s with heap := s.heap.push { cls := .type "tuple", data := .seq #[u, v] } }) (h' := g2) (t' := s.toks) I1 hf1 (fun c o hc q => by
      have q0 : (s.heap.push { cls := .type "tuple", data := .seq #[u, v] }).get? c = some o := q
      simp only [List.mem_cons, List.not_mem_nil, or_false, not_or] at hc
      by_cases e : c = s.heap.objs.size
      · subst e
        have q' : some { cls := .type "tuple", data := .seq #[u, v] } = some o := (Heap.get?_push_size s.heap rfl).symm.trans q0
        rw [<- q']
        exact h6.extBut _ _ hc.1 h2
      · rw [Heap.get?_push_ne _ _ _ e] at q0
        exact h6.extBut c o hc.1 (h3 c o hc.1 hc.2.2.1 hc.2.2.2.1 hc.2.2.2.2 q0))
    refine ⟨.ref s.heap.objs.size, _, I2, rfl, ⟨_, x, y, hp, rfl, rfl, fun xs' e => by rw [I.list_inj e q1]; exact hx, fun ys' e => by rw [I.tuple_inj e q2]; exact hy⟩, ?_, fun c hc => (hf1 c hc).1⟩
    obtain ⟨p, q, hTO⟩ := h1.hTO
    exact ⟨h5, h6.extBut _ _ D.TIz h1.hTI, ⟨p, q, h6.extBut _ _ D.TOz hTO⟩, h1.h1.extBut h6.extBut D.i1z, h1.h2.extBut h6.extBut D.i2z⟩
  done := by
    intro X hP hw hK hc i pins s σ H E I hf st hg
    subst hP hw hK
    obtain ⟨xs, q1, hx⟩ := hg
    obtain ⟨us, ru, pu, _⟩ := I.list q1
    have hl := ru.length
    refine zip_fin (I.ok.hd hc) D st pu.isList (by simp; omega) fun g h3 => ⟨rfl, inv_turned (t' := s.toks) I hf fun c o hc e => ?_⟩
    simp only [List.mem_cons, List.not_mem_nil, or_false, not_or] at hc
    exact h3 c o hc.1 hc.2.2.1 hc.2.2.2.1 hc.2.2.2.2 e
  self := fun _ _ _ _ _ st h => wpAny_pyIter_zip st.hz h
theorem turns_zip {K : PySem.W.Frag} {t : Tg} {ft : Ev -> Hh -> Rs Bool} {fe : Ev -> Hh -> Rs D} {n0 : Nat} {h' : Hh} {m2 : List Addr} {H2 : Hp} {r0 : Ev} {h0 : Hh} {a b : Addr} {n : Nat} {l : List D} {vs : List V} (ha : m2[n]? = some a) (hq : SqT K H2 b vs) (q : RDs K m2 H2 l vs) (e : compZ t ft fe n0 n 0 l r0 h0 = .ok () h') : Turns K t ft fe n0 h' (Itz K a b) m2 H2 r0 h0 := by
  refine ⟨fun i k r h => k = l.length - i /\ compZ t ft fe n0 n i (l.drop i) r h = .ok () h', l.length, ⟨by simp, e⟩, fun i k r h m H g w ⟨hk, e⟩ => ?_⟩
  by_cases hi : i < l.length
  · have ed : l[i]? = some l[i] := List.getElem?_eq_getElem hi
    obtain ⟨v, hv, rv⟩ := q.get ed
    rw [List.drop_eq_getElem_cons hi] at e
    simp only [compZ] at e
    split at e
    · cases e
    · rename_i ws el
      obtain ⟨a', us, ha', hq', q'⟩ := w.lst el
      rw [g.pre _ _ ha] at ha'; cases ha'
      split at e
      · cases e
      · rename_i d ed'
        obtain ⟨u, hu, ru⟩ := q'.get ed'
        split at e
        · cases e
        · rename_i r1 er
          obtain ⟨bb, h1, e1, e⟩ := Rs.bind_ok e
          refine .inr ⟨⟨us, vs, u, v, hq', g.tup _ _ hq, hu, hv⟩, _, fun x H' y => ?_, r1, er, bb, h1, e1, ?_⟩
          · obtain ⟨p, x', y', hp, rfl, rfl, y1, y2⟩ := y
            have z1 := y1 us hq'
            rw [hu] at z1; cases z1
            have z2 := y2 vs (g.tup _ _ hq)
            rw [hv] at z2; cases z2
            have gt := Gr.tupNew (K := K) (m := m) (o := .tup [u, v]) hp
            exact ⟨gt, w.keepNew hp, .tup (.of upd_same) (.cons (ru.mono gt) (.cons ((rv.mono g).mono gt) .nil))⟩
          · cases bb with
            | true =>
              rw [if_pos rfl] at e ⊢
              obtain ⟨y, h3, e3, e⟩ := Rs.bind_ok e
              obtain ⟨z, h4, e4, e⟩ := Rs.bind_ok e
              exact ⟨y, h3, z, h4, e3, e4, _, by omega, rfl, e⟩
            | false =>
              rw [if_neg Bool.false_ne_true] at e ⊢
              exact ⟨_, by omega, rfl, e⟩
  · rw [List.drop_eq_nil_of_le (by omega)] at e
    simp only [compZ] at e
    split at e
    · rename_i ws el
      obtain ⟨a', us, ha', hq', q'⟩ := w.lst el
      rw [g.pre _ _ ha] at ha'; cases ha'
      split at e
      · rename_i hl
        cases e
        exact .inl ⟨⟨us, hq', by rw [<- q'.length]; exact hl⟩, rfl⟩
      · cases e
    · cases e
theorem zip_apart {n a b : Nat} (h1 : a < n) (h2 : b < n) : ZipApart (n + 4) (n + 2) (n + 3) n (n + 1) a b := by constructor <;> (intro e; have e' : (_ : Nat) = _ := e; omega)
section
variable {N : List Str} {sc : Scope} {G : Gs}
theorem it_zp {l : Es} {x y : PySem.Expr} {p pos : Pos} (hg : glB sc "zip" = true) (hl : SAs N sc G l [x, y]) : SIt N sc G .zp l (.Call (.Name "zip" p) [x, y] [] pos) := fun {X ca cl} xo go {t tg ft fe N' cap} tk pins s σ H m r h xs h1 h' I w st e1 e3 => by
  have hns := hl.1
  rw [List.all_cons, List.all_cons, Bool.and_eq_true, Bool.and_eq_true] at hns
  have s1 := star_one (X := X) [y] hns.1
  have s2 := star_one (X := X) [] hns.2.1
  obtain ⟨n, ks, rfl⟩ : ∃ n ks, xs = [.ref n, .tup ks] := by
    rcases xs with _ | ⟨a, _ | ⟨b, _ | ⟨c, xs⟩⟩⟩
    · cases e3
    · cases a <;> cases e3
    · cases a <;> first | (cases e3; done) | skip
      cases b <;> first | (cases e3; done) | skip
      exact ⟨_, _, rfl⟩
    · cases a <;> first | (cases e3; done) | skip
      cases b <;> cases e3
  cases tg <;> first | (cases tk; done) | skip
  rename_i elts j tp
  have e3' : compZ t ft fe h1.length n 0 ks (blockE N' cap r) (h1 ++ [.lst []]) = .ok () h' := e3
  refine Call_ (ld_blt I (glB_ok xo hg) (go.blt .zip) (boot_blt .zip) (PyProof.Rows.callWith_type1 (thn (hl.2 xo go pos pins s σ H (fun vs H1 => ∃ m1, Gr X.K m H m1 H1 /\ Wd X.K m1 h1 H1 /\ RDs X.K m1 H1 [.ref n, .tup ks] vs) I ⟨m, r, h, _, h1, w, st, e1, fun m' vs H' g w' rv => ⟨m', g, w', rv⟩⟩) fun us s1 ⟨vs, H1, I1, rv, m1, g1, w1, rd⟩ => ?_) (by rw [s1]) (by rw [s2]; rfl)) (by decide) (by decide))
  cases rd with
  | cons r1 rd =>
  cases rd with
  | cons r2 rd =>
  cases rd
  cases r1 with
  | @ref _ a ha =>
  cases r2 with
  | @tup b _ vs hq q =>
  cases rv with
  | cons v1 rv =>
  cases rv with
  | cons v2 rv =>
  cases rv
  cases v1; cases v2
  obtain ⟨ws, el⟩ : ∃ ws, lstAt h1 n = some ws := by
    have e4 : ∃ ws, lstAt (h1 ++ [.lst []]) n = some ws := by
      cases ks with
      | nil =>
        simp only [compZ] at e3'
        split at e3'
        · exact ⟨_, by assumption⟩
        · cases e3'
      | cons k ks =>
        simp only [compZ] at e3'
        split at e3'
        · cases e3'
        · exact ⟨_, by assumption⟩
    obtain ⟨ws, e4⟩ := e4
    have hn : n < h1.length := by rw [<- w1.len]; exact (List.getElem?_eq_some_iff.mp ha).1
    unfold lstAt at e4 ⊢
    rw [List.getElem?_append_left hn] at e4
    exact ⟨ws, e4⟩
  obtain ⟨a', us, ha', hq', q'⟩ := w1.lst el
  rw [ha] at ha'; cases ha'
  obtain ⟨its, ri, pi, _⟩ := I1.list hq'
  obtain ⟨its2, ri2, pi2, _⟩ := I1.tuple hq
  have la : a < s1.heap.objs.size := by obtain ⟨o, ho, _⟩ := pi.isList; exact Heap.lt_size ho
  have lb : b < s1.heap.objs.size := by obtain ⟨o, ho, _⟩ := pi2; exact Heap.lt_size ho
  refine call_zip pi.isList pi2 fun g hz hk => wpAny_pyIter_zip hz.hz ?_
  refine ⟨_, [s1.heap.objs.size + 4, s1.heap.objs.size + 2, s1.heap.objs.size + 3, s1.heap.objs.size, s1.heap.objs.size + 1], _, Itz X.K a b, H1, rfl, I1.kept (t' := s1.toks) hk, turn_zip (zip_apart la lb), hz, fun c hc => ?_, m1, h1, rfl, g1, w1, turns_zip ha hq q e3'⟩
  have hc' : s1.heap.objs.size <= c := by
    simp only [List.mem_cons, List.not_mem_nil, or_false] at hc
    rcases hc with rfl | rfl | rfl | rfl | rfl <;> first | exact Nat.le_refl _ | exact Nat.le_add_right _ _
  exact I1.fpOk hc' (I1.hok.fresh hc')
end
end Ng
end
section
namespace Ng
open PySem PySem.Spec PyProof.Rows L2
inductive Ir where
  | r1 (e : E) | r2 (a b : E) | sq (e : E)
inductive HB where
  | isx (k : Nat) | isv | and (a b : HB) | not (a : HB)
inductive HS where
  | bl (i : Nat) (b : HB) | cst (i : Nat) (d : Sum Bool Str) | ifc (b : HB) (i : Nat) (d : Sum Bool Str)
def HB.run (G : Gs) (c : Nat) : HB -> Option Bool
  | .isx k => if (c, k) ∈ G.sub then some true else if (c, k) ∈ G.nsub then some false else none
  | .isv => some true
  | .and a b => match a.run G c with
    | some true => b.run G c
    | some false => some false
    | none => none
  | .not a => match a.run G c with
    | some v => some (!v)
    | none => none
def cstD : Sum Bool Str -> D
  | .inl b => .bl b
  | .inr x => .str x
def hrun (G : Gs) (c : Nat) : List HS -> Ev -> Option Ev
  | [], r => some r
  | .bl i b :: l, r => match b.run G c with
    | some v => hrun G c l (r.set i (some (.bl v)))
    | none => none
  | .cst i d :: l, r => hrun G c l (r.set i (some (cstD d)))
  | .ifc b i d :: l, r => match b.run G c with
    | some true => hrun G c l (r.set i (some (cstD d)))
    | some false => hrun G c l r
    | none => none
def clr : Option Nat -> Ev -> Ev
  | some j, r => r.set j none
  | none, r => r
mutual
inductive S where
  | rais (c : Nat) (x : Str) | asgX (t : Tg) (f : Nat) (l : Es) | retX (f : Nat) (l : Es) | exX (f : Nat) (l : Es) | tryx (b : Ss) (g : Nat) (j : Option Nat) (hs : List HS)
  | asg (t : Tg) (e : E) | asc (i : Nat) (e : E) | ex (e : E) | ret (e : E) | iff (c : E) (a b : Ss) | forr (t : Tg) (it : Ir) (b : Ss) | whl (c : E) (b : Ss)
  | pass | brk | cont | stx (o i e : E) | sfl (o : E) (cn f : Str) (e : E) | asgL (l : List Nat) (e : E) | asgS (i j : Nat) (e : E) | exN (cn : Str) (f : Nat) (l : Es) | never
inductive Ss where
  | nil | cons (s : S) (r : Ss)
end
inductive Fl where
  | nx (r : Ev) | rt (d : D) | bk (r : Ev) | ct (r : Ev)
def forS (t : Tg) (body : Ev -> Hh -> Rs Fl) : List D -> Ev -> Hh -> Rs Fl
  | [], r, h => .ok (.nx r) h
  | d :: ds, r, h => match setT t d r with
    | none => .bad
    | some r1 => (body r1 h).bind fun fl h => match fl with
      | .nx r2 => forS t body ds r2 h
      | .ct r2 => forS t body ds r2 h
      | .bk r2 => .ok (.nx r2) h
      | .rt d => .ok (.rt d) h
def forI (t : Tg) (body : Ev -> Hh -> Rs Fl) (n : Nat) : Nat -> Nat -> Ev -> Hh -> Rs Fl
  | 0, _, _, _ => .bad
  | k + 1, i, r, h => match lstAt h n with
    | none => .bad
    | some l => match l[i]? with
      | none => .ok (.nx r) h
      | some d => match setT t d r with
        | none => .bad
        | some r1 => (body r1 h).bind fun fl h => match fl with
          | .nx r2 => forI t body n k (i + 1) r2 h
          | .ct r2 => forI t body n k (i + 1) r2 h
          | .bk r2 => .ok (.nx r2) h
          | .rt d => .ok (.rt d) h
def whileF (c : Ev -> Hh -> Rs D) (body : Ev -> Hh -> Rs Fl) : Nat -> Ev -> Hh -> Rs Fl
  | 0, _, _ => .bad
  | k + 1, r, h => (c r h).nx.bind fun x h => match truD x h with
    | none => .bad
    | some false => .ok (.nx r) h
    | some true => (body r h).bind fun fl h => match fl with
      | .nx r2 => whileF c body k r2 h
      | .ct r2 => whileF c body k r2 h
      | .bk r2 => .ok (.nx r2) h
      | .rt d => .ok (.rt d) h
def stxL (n : Nat) (l : List D) (y z : D) (h : Hh) : Rs Unit := match y with
  | .int k => match ixN l.length k with
    | some j => .ok () (h.set n (.lst (l.set j z)))
    | none => .bad
  | _ => .bad
def stxD (x y z : D) (h : Hh) : Rs Unit := match x with
  | .ref n => match h[n]? with
    | some (.lst l) => stxL n l y z h
    | some (.dct _) => dputD n y z h
    | some (.dtt l) => dputT n l y z h
    | _ => .bad
  | _ => .bad
def forD (W : Nat) (t : Tg) (body : Ev -> Hh -> Rs Fl) (x : D) (r : Ev) (h : Hh) : Rs Fl := match x with
  | .tup l => forS t body l r h
  | .ref n => forI t body n W 0 r h
  | _ => .bad
def catchD (G : Gs) (g : Nat) (j : Option Nat) (hs : List HS) : Rs Fl -> Rs Fl
  | .exc c r h => if (c, g) ∈ G.sub then (match hrun G c hs (clr j r) with
    | some r' => .ok (.nx (clr j r')) h
    | none => .bad) else .bad
  | o => o
mutual
noncomputable def xs (G : Gs) (cl : Cl) (W : Nat) : S -> Ev -> Hh -> Rs Fl
  | .rais c _, r, h => .exc c r h
  | .asgX t f l, r, h => (evs G cl l r h).nx.bind fun ds h => ((cl f ds h).inn r).bind fun x h => match setT t x r with
    | some r1 => .ok (.nx r1) h
    | none => .bad
  | .retX f l, r, h => (evs G cl l r h).nx.bind fun ds h => ((cl f ds h).inn r).bind fun x h => .ok (.rt x) h
  | .exX f l, r, h => (evs G cl l r h).nx.bind fun ds h => ((cl f ds h).inn r).bind fun _ h => .ok (.nx r) h
  | .tryx b g j hs, r, h => catchD G g j hs (xss G cl W b r h)
  | .asg t e, r, h => (ev G cl e r h).nx.bind fun x h => match setT t x r with
    | some r1 => .ok (.nx r1) h
    | none => .bad
  | .asc i e, r, h => (ev G cl e r h).nx.bind fun x h => .ok (.nx (r.set i (some x))) h
  | .ex e, r, h => (ev G cl e r h).nx.bind fun _ h => .ok (.nx r) h
  | .ret e, r, h => (ev G cl e r h).nx.bind fun x h => .ok (.rt x) h
  | .iff c a b, r, h => (ev G cl c r h).nx.bind fun x h => match truD x h with
    | some true => xss G cl W a r h
    | some false => xss G cl W b r h
    | none => .bad
  | .forr t (.r1 e) b, r, h => (ev G cl e r h).nx.bind fun x h => match x with
    | .int j => if okR j then forS t (xss G cl W b) (rngD 0 j) r h else .bad
    | _ => .bad
  | .forr t (.r2 e e') b, r, h => (ev G cl e r h).nx.bind fun x h => (ev G cl e' r h).nx.bind fun y h => match x, y with
    | .int i, .int j => if okR i /\ okR j then forS t (xss G cl W b) (rngD i j) r h else .bad
    | _, _ => .bad
  | .forr t (.sq e) b, r, h => (ev G cl e r h).nx.bind fun x h => forD W t (xss G cl W b) x r h
  | .whl c b, r, h => whileF (ev G cl c) (xss G cl W b) W r h
  | .pass, r, h => .ok (.nx r) h
  | .brk, r, h => .ok (.bk r) h
  | .cont, r, h => .ok (.ct r) h
  | .stx o i e, r, h => (ev G cl e r h).nx.bind fun z h => (ev G cl o r h).nx.bind fun x h => (ev G cl i r h).nx.bind fun y h => (stxD x y z h).nx.bind fun _ h => .ok (.nx r) h
  | .sfl o cn f e, r, h => (ev G cl e r h).nx.bind fun z h => (ev G cl o r h).nx.bind fun x h => (satD cn x z f h).nx.bind fun _ h => .ok (.nx r) h
  | .asgL l e, r, h => (ev G cl e r h).nx.bind fun x h => match x with
    | .ref n => (match lstAt h n with
      | some ds => if ds.length = l.length then .ok (.nx (setAll l ds r)) h else .bad
      | none => .bad)
    | _ => .bad
  | .asgS i j e, r, h => (ev G cl e r h).nx.bind fun x h => match seqD x h with
    | some (d :: ds) => if ds.length <= 1000 then .ok (.nx ((r.set i (some d)).set j (some (.ref h.length)))) (h ++ [.lst ds]) else .bad
    | _ => .bad
  | .exN cn f l, r, h => (evs G cl l r h).nx.bind fun ds h => ((newD cn (cl f) ds h).inn r).bind fun _ h => .ok (.nx r) h
  | .never, _, _ => .bad
noncomputable def xss (G : Gs) (cl : Cl) (W : Nat) : Ss -> Ev -> Hh -> Rs Fl
  | .nil, r, h => .ok (.nx r) h
  | .cons s l, r, h => (xs G cl W s r h).bind fun fl h => match fl with
    | .nx r2 => xss G cl W l r2 h
    | f => .ok f h
end
def noComp : PySem.Expr -> Bool
  | .ListComp _ _ _ _ => false
  | .SetComp _ _ _ _ => false
  | .DictComp _ _ _ _ _ => false
  | _ => true
def chkNs (N : List Str) (sc : Scope) : List Nat -> List PySem.Expr -> Bool
  | [], [] => true
  | i :: is, .Name x _ :: es => N[i]? == some x && locB sc x && chkNs N sc is es
  | _, _ => false
def chkT (N : List Str) (sc : Scope) : Tg -> PySem.Expr -> Bool
  | .nm i, .Name x _ => N[i]? == some x && locB sc x
  | .tp l, .Tuple es _ _ => chkNs N sc l es
  | _, _ => false
mutual
def noRs : S -> Bool
  | .rais _ _ => false
  | .iff _ a b => noRss a && noRss b
  | .forr _ _ b => noRss b
  | .whl _ b => noRss b
  | .tryx _ _ _ _ => false
  | _ => true
def noRss : Ss -> Bool
  | .nil => true
  | .cons s l => noRs s && noRss l
end
def FlOk (K : PySem.W.Frag) (m : List Addr) (H : Hp) (D : Ends) : Fl -> Prop
  | .nx r => ∀ s, RSt K m H r s -> D.nx s H
  | .rt d => ∀ v, RD K m H d v -> D.rt v H
  | .bk r => ∀ s, RSt K m H r s -> D.bk s H
  | .ct r => ∀ s, RSt K m H r s -> D.ct s H
abbrev Ws := Nat -> Sg -> Hp -> Prop
def OutS (K : PySem.W.Frag) (W : Ws) (m : List Addr) (H : Hp) (D : Ends) : Rs Fl -> Prop
  | .ok fl h' => ∀ m' H', Gr K m H m' H' -> Wd K m' h' H' -> FlOk K m' H' D fl
  | .exc c r' h' => ∀ m' H' s', Gr K m H m' H' -> Wd K m' h' H' -> RSt K m' H' r' s' -> W c s' H'
  | .bad => False
theorem OutS.mono {K : PySem.W.Frag} {W : Ws} {m m1 : List Addr} {H H1 : Hp} {D : Ends} (g : Gr K m H m1 H1) : ∀ {o : Rs Fl}, OutS K W m H D o -> OutS K W m1 H1 D o
  | .ok _ _, q => fun m' H' g' => q m' H' (g.trans g')
  | .exc _ _ _, q => fun m' H' s' g' => q m' H' s' (g.trans g')
  | .bad, q => q
def TDS (K : PySem.W.Frag) (W : Ws) (f : Ev -> Hh -> Rs Fl) : TS := fun D s H => ∃ m r h, Wd K m h H /\ RSt K m H r s /\ OutS K W m H D (f r h)
theorem _root_.L2.PS.wk {X : Cx} {e : PySem.Stmt} {t t' : TS} (h : PS X e t) (i : ∀ D s H, t' D s H -> t D s H) : PS X e t' := fun pins s σ H D I q => h pins s σ H D I (i _ _ _ q)
theorem _root_.L2.PSs.wk {X : Cx} {e : List PySem.Stmt} {t t' : TS} (h : PSs X e t) (i : ∀ D s H, t' D s H -> t D s H) : PSs X e t' := fun pins s σ H D I q => h pins s σ H D I (i _ _ _ q)
section
variable {X : Cx} {N : List Str} {sc : Scope} {G : Gs} {ca : Nat -> Addr} {cl : Cl}
theorem chkNs_of : ∀ {l : List Nat} {es : List PySem.Expr}, chkNs N sc l es = true -> l.length = es.length /\ ∀ (j : Nat) i e, l[j]? = some i -> es[j]? = some e -> chkT N sc (.nm i) e = true
  | [], [], _ => ⟨rfl, fun j i e h => by simp at h⟩
  | i :: is, e :: es, h => by
    cases e <;> first | exact absurd (show false = true from h) Bool.false_ne_true | skip
    rename_i x pos
    have h' : (N[i]? == some x && locB sc x && chkNs N sc is es) = true := h
    rw [Bool.and_eq_true] at h'
    obtain ⟨i1, i2⟩ := chkNs_of h'.2
    refine ⟨by simp [i1], fun j i' e' e1 e2 => ?_⟩
    cases j with
    | zero =>
      simp at e1 e2
      subst e1; subst e2
      exact h'.1
    | succ j => exact i2 j i' e' (by simpa using e1) (by simpa using e2)
  | [], _ :: _, h => absurd (show false = true from h) Bool.false_ne_true
  | _ :: _, [], h => absurd (show false = true from h) Bool.false_ne_true
theorem pgT (xo : XOk X N sc) (hfn : ∀ x, X.fn x = true) {t : Tg} {tg : PySem.Expr} (h : chkT N sc t tg = true) : PG X tg (TDG X.K t) := by
  refine pgT_of (fun e i => chkT N sc (.nm i) e) (fun e i he => ?_) xo.calm ?_
  · cases e <;> first | exact absurd (show false = true from he) Bool.false_ne_true | skip
    rename_i x pos
    have h' : (N[i]? == some x && locB sc x) = true := he
    simp only [Bool.and_eq_true, beq_iff_eq] at h'
    exact ⟨x, pos, rfl, pg_name xo.nd (by rw [xo.n]; exact h'.1) (by rw [xo.s]; exact locB_ok h'.2) (.inl (hfn x))⟩
  · cases t with
    | nm i => exact h
    | tp l =>
      cases tg <;> first | exact absurd (show false = true from h) Bool.false_ne_true | skip
      rename_i es k pos
      obtain ⟨h1, h2⟩ := chkNs_of (show chkNs N sc l es = true from h)
      exact ⟨es, k, pos, rfl, h1, h2⟩
    | tn i j k => exact absurd (show false = true from h) Bool.false_ne_true
end
end Ng
end
section
namespace Ng
open PySem PySem.Spec PyProof.Rows L2
section
variable {prog : Program} {w : World} {A : Around} {E : Value -> Shared -> Prop}
theorem draw_lst {it a : Addr} {xs : Array Value} (ne : a ≠ it) : ∀ (k i : Nat) (s0 : Shared) (R : List Value -> Shared -> Prop), s0.heap.IsListIter it a i -> s0.heap.IsList a xs -> i + k <= xs.size ->
    (∀ g, g.IsListIter it a (i + k) -> Heap.SameBut it s0.heap g -> R ((xs.toList.drop i).take k) { s0 with heap := g }) -> wpAny (model prog w) A (draw (.ref it) k) R E s0 := by
  intro k
  induction k with
  | zero => exact fun i s0 R h1 _ _ fin => wpAny_pure (by simpa using fin s0.heap h1 (Heap.SameBut.refl ..))
  | succ k ih =>
    intro i s0 R h1 h2 h3 fin
    have lt : i < xs.size := by omega
    show wpAny _ _ (pyNext (.ref it) >>= _) R E s0
    refine wpAny_bind (wpAny_pyNext_list_item h1 h2 (x := xs[i]) (by simp [lt]) fun g1 a1 e1 => wpAny_bind (wpAny_holding (ih (i + 1) _ _ a1 (h2.extBut e1.extBut ne) (by omega) fun g2 a2 e2 => wpAny_pure ?_)))
    have z := fin g2 (by rw [show i + (k + 1) = i + 1 + k by omega]; exact a2) (e1.trans e2)
    rwa [show xs.toList.drop i = xs[i] :: xs.toList.drop (i + 1) by simp [List.drop_eq_getElem_cons, lt], List.take_succ_cons] at z
theorem items_lst {s0 : Shared} {a : Addr} {xs : Array Value} {R : List Value -> Shared -> Prop} (hh : A.handled = none) (hl : s0.heap.IsList a xs)
    (fin : ∀ g, Heap.ExtBut s0.heap.objs.size s0.heap g -> R xs.toList { s0 with heap := g }) : wpAny (model prog w) A (unpackItems (.ref a) xs.size none) R E s0 := by
  have ne : a ≠ s0.heap.objs.size := by obtain ⟨o, ho, _⟩ := hl; exact Nat.ne_of_lt (Heap.lt_size ho)
  unfold unpackItems
  refine wpAny_bind ?_
  unfold notIterableAtAll
  refine wpAny_bind (wpAny_specialOf hl.typeIs slot_list_iter.lookup (wpAny_pure ?_))
  simp only [Bool.false_eq_true, if_false]
  refine wpAny_bind (wpAny_holding (wpAny_pyIter_list hl (wpAny_bind (wpAny_holding (draw_lst ne xs.size 0 _ _ ⟨_, Heap.get?_push_size _ rfl, rfl, rfl⟩ (hl.push _) (by omega) fun g1 a1 e1 => ?_)))))
  rw [show List.take xs.size (List.drop 0 xs.toList) = xs.toList by rw [List.drop_zero]; exact List.take_of_length_le (by simp), if_neg (by simp)]
  refine wpAny_bind (wpAny_holding (wpAny_pyNext_list_end hh a1 ((hl.push _).extBut e1.extBut ne) (by simp) fun g2 e2 => ?_))
  simp only [Option.isSome_none, Bool.false_eq_true, if_false]
  exact wpAny_pure (fin g2 fun b o hb e => e2 b o hb (e1.extBut b o hb (Heap.get?_push_of_some _ e)))
end
section
variable {X : Cx}
def gLst (K : PySem.W.Frag) (n : Nat) (t : TGs) : TG := fun v σ H Q => ∃ a xs, v = .ref a /\ SqL K H a xs /\ xs.length = n /\ t xs σ H Q
theorem pg_lst {es : List PySem.Expr} {k : Nat} {pos : Pos} {t : TGs} {n : Nat} (hc : X.calm = true) (h : PGs X es t) (hn : (assignEach es X.env).length = n) (hst : (assignEach es X.env).findIdx? (·.1) = none) : PG X (.Tuple es k pos) (gLst X.K n t) := by
  intro pins s σ H v u Q I r ⟨a, xs, e1, hq, hl, hw⟩
  subst e1
  cases r
  obtain ⟨its, rv, p, hz⟩ := I.list hq
  rw [arm_assign_Tuple]
  refine wpAny_bind (wpAny_standAt ?_)
  unfold unpack
  rw [hst, show (assignEach es X.env).length = its.toArray.size by rw [hn, <- hl, rv.length]; simp]
  refine wpAny_bind (wpAny_holding (items_lst (I.ok.hd hc) p.isList fun g hx => ?_))
  exact h pins _ σ H xs _ Q (I.kept (h' := g) (t' := s.toks) fun b o e => hx b o (Nat.ne_of_lt (Heap.lt_size e)) e) (by simpa using rv) hw
def TDGL (K : PySem.W.Frag) (l : List Nat) : TG := fun v s H Q => ∃ m hh r n ds, Wd K m hh H /\ RSt K m H r s /\ RD K m H (.ref n) v /\ lstAt hh n = some ds /\ ds.length = l.length /\ ∀ s', RSt K m H (setAll l ds r) s' -> Q s' H
theorem pgL {N : List Str} {sc : Scope} (xo : XOk X N sc) (hfn : ∀ x, X.fn x = true) {l : List Nat} {es : List PySem.Expr} {k : Nat} {pos : Pos} (h : chkNs N sc l es = true) : PG X (.Tuple es k pos) (TDGL X.K l) := by
  obtain ⟨h1, h2⟩ := chkNs_of h
  obtain ⟨p1, p2, p3⟩ := pgsP (X := X) (fun e i => chkT N sc (.nm i) e) (fun e i he => by
    cases e <;> first | exact absurd (show false = true from he) Bool.false_ne_true | skip
    rename_i x pos
    have h' : (N[i]? == some x && locB sc x) = true := he
    simp only [Bool.and_eq_true, beq_iff_eq] at h'
    exact ⟨x, pos, rfl, pg_name xo.nd (by rw [xo.n]; exact h'.1) (by rw [xo.s]; exact locB_ok h'.2) (.inl (hfn x))⟩) h1 h2
  refine (pg_lst xo.calm p1 p2 p3).wk fun v s H Q ⟨m, hh, r, n, ds, w, st, rd, el, hl, c⟩ => ?_
  cases rd with
  | ref ha =>
    obtain ⟨a', vs, ha', hq, q⟩ := w.lst el
    rw [ha] at ha'; cases ha'
    exact ⟨_, vs, rfl, hq, by rw [<- q.length]; exact hl, X.K, m, r, ds, st, q, hl, c⟩
end
end Ng
end
section
namespace Ng
open PySem PySem.Spec PyProof.Rows L2
section
variable {X : Cx} {N : List Str} {sc : Scope} {G : Gs} {cl : Cl} {W : Nat} {K : PySem.W.Frag} {Wx : Ws}
theorem OutS.nx {A : Type} {m : List Addr} {H : Hp} {Z : Ends} {a : Rs A} {k : A -> Hh -> Rs Fl} (q : OutS K Wx m H Z (a.nx.bind k)) : ∃ d h1, a = .ok d h1 /\ OutS K Wx m H Z (k d h1) := by
  cases a with
  | ok d h1 => exact ⟨d, h1, rfl, q⟩
  | exc c r h => exact q.elim
  | bad => exact q.elim
theorem OutS.body {Z : Ends} {m : List Addr} {H : Hp} {P : Sg -> Hp -> Prop} {o : Rs Fl} {next : Ev -> Hh -> Rs Fl}
    (e : OutS K Wx m H Z (o.bind fun fl h => match fl with
      | .nx r2 => next r2 h
      | .ct r2 => next r2 h
      | .bk r2 => .ok (.nx r2) h
      | .rt d => .ok (.rt d) h))
    (hP : ∀ m' H' h' r s, Gr K m H m' H' -> Wd K m' h' H' -> RSt K m' H' r s -> OutS K Wx m' H' Z (next r h') -> P s H') : OutS K Wx m H { Z with nx := P, ct := P, bk := Z.nx } o := by
  cases o with
  | bad => exact e
  | exc c r h => exact e
  | ok fl h2 =>
    intro m' H' g w
    have e' := OutS.mono g e
    cases fl with
    | nx r => exact fun s st => hP m' H' h2 r s g w st e'
    | ct r => exact fun s st => hP m' H' h2 r s g w st e'
    | bk r => exact fun s st => e' m' H' .refl w s st
    | rt d => exact fun v rd => e' m' H' .refl w v rd
theorem turnS {t : Tg} {body : Ev -> Hh -> Rs Fl} {Z : Ends} {d : D} {ds : List D} {P : Sg -> Hp -> Prop} {m1 : List Addr} {r1 : Ev} {h1 : Hh} {s1 : Sg} {H1 : Hp} {v : V}
    (w : Wd K m1 h1 H1) (st : RSt K m1 H1 r1 s1) (rd : RD K m1 H1 d v) (e : OutS K Wx m1 H1 Z (forS t body (d :: ds) r1 h1))
    (hP : ∀ m2 H2 r2 h2 s2, Gr K m1 H1 m2 H2 -> Wd K m2 h2 H2 -> RSt K m2 H2 r2 s2 -> OutS K Wx m2 H2 Z (forS t body ds r2 h2) -> P s2 H2) :
    TDG K t v s1 H1 fun s2 H2 => TDS K Wx body { Z with nx := P, ct := P, bk := Z.nx } s2 H2 := by
  simp only [forS] at e
  split at e
  · exact e.elim
  · rename_i r2 er
    exact ⟨m1, h1, r1, d, r2, w, st, rd, er, fun s2 st2 => ⟨m1, r2, h1, w, st2, OutS.body (next := forS t body ds) e fun m' H' h' r s g w' st' e' => hP m' H' r h' s g w' st' e'⟩⟩
theorem for_rngD {t : Tg} {body : Ev -> Hh -> Rs Fl} {Z : Ends} {m0 : List Addr} {H0 : Hp} {h0 : Hh} {lo hi : Int} {r0 : Ev} {s0 : Sg}
    (w : Wd K m0 h0 H0) (st : RSt K m0 H0 r0 s0) (e : OutS K Wx m0 H0 Z (forS t body (rngD lo hi) r0 h0)) :
    ∃ Wv : Nat -> Nat -> Sg -> Hp -> Prop, (∃ m, Wv 0 m s0 H0) /\ ∀ i m s H, Wv i m s H ->
      ((Itr lo (hi - lo).toNat).stop i H /\ Z.nx s H) \/ ((Itr lo (hi - lo).toNat).go i H /\ ∃ P : Sg -> Hp -> Prop, (∀ s' H', P s' H' -> ∃ m', m' < m /\ Wv (i + 1) m' s' H') /\ ∀ x H', (Itr lo (hi - lo).toNat).yld i H x H' -> TDG K t x s H' fun s2 H2 => TDS K Wx body { Z with nx := P, ct := P, bk := Z.nx } s2 H2) := by
  refine for_range (lo := lo) (n := (hi - lo).toNat) (fun i s H => ∃ m r h, Gr K m0 H0 m H /\ Wd K m h H /\ RSt K m H r s /\ OutS K Wx m H Z (forS t body ((rngD lo hi).drop i) r h))
    ⟨m0, r0, h0, .refl, w, st, e⟩ ?_ ?_
  · rintro i s H hi' ⟨m, r, h, g, w1, st1, e1⟩
    have hd : (rngD lo hi)[i]? = some (D.int (lo + i)) := by
      unfold rngD
      rw [List.getElem?_map, List.getElem?_range hi']
      rfl
    have ed : (rngD lo hi).drop i = D.int (lo + i) :: (rngD lo hi).drop (i + 1) := by
      obtain ⟨hl, z⟩ := List.getElem?_eq_some_iff.mp hd
      rw [<- z]; exact List.drop_eq_getElem_cons hl
    rw [ed] at e1
    exact turnS w1 st1 (.int _) e1 fun m2 H2 r2 h2 s2 g2 w2 st2 e2 => ⟨m2, r2, h2, g.trans g2, w2, st2, e2⟩
  · rintro s H ⟨m, r, h, g, w1, st1, e1⟩
    have hl : (rngD lo hi).length = (hi - lo).toNat := by unfold rngD; simp
    rw [<- hl, List.drop_length] at e1
    exact e1 m H .refl w1 s st1
theorem whileD {f : Ev -> Hh -> Rs D} {body : Ev -> Hh -> Rs Fl} {Z : Ends} {m0 : List Addr} {H0 : Hp} {h0 : Hh} {r0 : Ev} {s0 : Sg}
    (w : Wd K m0 h0 H0) (st : RSt K m0 H0 r0 s0) (e : OutS K Wx m0 H0 Z (whileF f body W r0 h0)) : tWhile (TDT K f) (TDS K Wx body) Z s0 H0 := by
  refine ⟨fun k s H => ∃ m r h, Gr K m0 H0 m H /\ Wd K m h H /\ RSt K m H r s /\ OutS K Wx m H Z (whileF f body k r h), ⟨W, m0, r0, h0, .refl, w, st, e⟩, ?_⟩
  rintro k s H ⟨m, r, h, g, w1, st1, e1⟩
  cases k with
  | zero => exact e1.elim
  | succ k =>
    simp only [whileF] at e1
    obtain ⟨x, h1, ex, e1⟩ := e1.nx
    split at e1
    · exact e1.elim
    · rename_i et
      exact ⟨m, r, h, x, h1, false, w1, st1, ex, et, fun m' H' g' w' => iteF (e1 m' H' g' w' s (st1.mono g'))⟩
    · rename_i et
      exact ⟨m, r, h, x, h1, true, w1, st1, ex, et, fun m' H' g' w' => iteT ⟨fun s' H' => ∃ m r h, Gr K m0 H0 m H' /\ Wd K m h H' /\ RSt K m H' r s' /\ OutS K Wx m H' Z (whileF f body k r h), fun s' H' p => ⟨k, Nat.lt_succ_self _, p⟩,
        m', r, h1, w', st1.mono g', OutS.body (next := whileF f body k) (e1.mono g') fun m3 H3 h3 r s g3 w3 st' e' => ⟨m3, r, h3, (g.trans g').trans g3, w3, st', e'⟩⟩⟩
end
end Ng
end
section
namespace Ng
open PySem PySem.Spec PyProof.Rows L2
section
variable {X : Cx} {ca : Nat -> Addr} {Wx : Ws}
end
section
variable {X : Cx} {N : List Str} {sc : Scope} {G : Gs} {ca : Nat -> Addr} {cl : Cl} {Wx : Ws} {rz : Bool}
theorem TDS.one {K : PySem.W.Frag} {fa : Ev -> Hh -> Rs D} {f : Ev -> Hh -> Rs Fl} {k : Ev -> D -> Hh -> Rs Fl} {s : Sg} {H : Hp} {Z : Ends} {R : VK} (hf : ∀ r h, f r h = (fa r h).nx.bind (k r)) (q : TDS K Wx f Z s H)
    (c : ∀ (m2 : List Addr) (r : Ev) (h2 : Hh) (H2 : Hp) (dx : D) (x : V), Wd K m2 h2 H2 -> RSt K m2 H2 r s -> RD K m2 H2 dx x -> OutS K Wx m2 H2 Z (k r dx h2) -> R x H2) : TDE K fa s H R := by
  obtain ⟨m, r, h, w, st, o⟩ := q
  rw [hf] at o
  obtain ⟨dx, h1, e1, o⟩ := o.nx
  exact ⟨m, r, h, dx, h1, w, st, e1, fun m1 x H1 g1 w1 rx => c m1 r h1 H1 dx x w1 (st.mono g1) rx (o.mono g1)⟩
end
section
variable {X : Cx} {N : List Str} {sc : Scope} {G : Gs} {ca : Nat -> Addr} {cl : Cl} {e : Addr} {oe : Obj} {c : Nat}
def hslot (N : List Str) (e : Addr) (n : Option Str) (σ : Sg) : Prop := ∀ x, n = some x -> ∃ j : Nat, N[j]? = some x /\ σ[j]? = some (some (.ref e))
end
end Ng
end
section
namespace Ng
open PySem PySem.Spec PyProof.Rows L2
theorem noComp_sw {env : Env} {v : PySem.Expr} {t : Option PySem.Expr} {l : Nat} (h : noComp v = true) : swapsWith v t l env = pure false := by
  cases v <;> first | rfl | (cases h; done)
theorem noComp_sole {env : Env} {v tg : PySem.Expr} {l : Nat} (h : noComp v = true) : swapsWithSole [tg] v l env = pure false := noComp_sw (t := some tg) h
section
variable {X : Cx} {N : List Str} {sc : Scope} {G : Gs} {ca : Nat -> Addr} {cl : Cl} {e : Addr} {oe : Obj} {c : Nat}
def HS.ix : HS -> Nat
  | .bl i _ => i
  | .cst i _ => i
  | .ifc _ i _ => i
end
section
variable {X : Cx} {pins pins' : List (Addr × Obj)} {E : Value -> Shared -> Prop} {σ : Sg} {H : Hp} {s : Shared}
end
section
variable {X : Cx} {N : List Str} {sc : Scope} {G : Gs} {ca : Nat -> Addr} {cl : Cl} {Wx : Ws} {rz : Bool}
end
end Ng
end
section
namespace Ng
open PySem PySem.Spec PyProof.Rows L2
section
variable {X : Cx}
end
def SS (N : List Str) (sc : Scope) (G : Gs) (c : S) (e : PySem.Stmt) : Prop := ∀ {X : Cx} {ca : Nat -> Addr} {cl : Cl} {W : Nat} {Wx : Ws} {rz : Bool}, XOk X N sc -> GOk X G ca cl -> (∀ x, X.fn x = true) -> XX X ca Wx rz -> (rz = true \/ noRs c = true) -> PS X e (TDS X.K Wx (xs G cl W c))
def SSs (N : List Str) (sc : Scope) (G : Gs) (c : Ss) (e : List PySem.Stmt) : Prop := ∀ {X : Cx} {ca : Nat -> Addr} {cl : Cl} {W : Nat} {Wx : Ws} {rz : Bool}, XOk X N sc -> GOk X G ca cl -> (∀ x, X.fn x = true) -> XX X ca Wx rz -> (rz = true \/ noRss c = true) -> PSs X e (TDS X.K Wx (xss G cl W c))
section
variable {N : List Str} {sc : Scope} {G : Gs}
theorem dS_asgN {i : Nat} {a : E} {x : Str} {px pos : Pos} {v : PySem.Expr} (h1 : N[i]? = some x) (h2 : locB sc x = true) (h3 : noComp v = true) (h_a : SE N sc G a v) : SS N sc G (.asg (.nm i) a) (.Assign [.Name x px] v pos) := fun {X ca cl W Wx rz} xo go hfn xx hz => by
  refine (ps_set (i := i) xo.nd (by rw [xo.n]; exact h1) (by rw [xo.s]; exact locB_ok h2) (h_a xo go).1 (noComp_sw h3) (.inl (hfn x))).wk fun Z s H q => ?_
  refine TDS.one (fun r h => by rw [xs]) q fun m2 r h2 H2 dx y w2 st2 rx o => ?_
  exact o m2 H2 .refl w2 _ (st2.set i rx)
theorem swap_yes {X : Cx} (xo : XOk X N sc) {y : Str} {py pos : Pos} {scope : Scope} (hk : (sc.kind == .function) = true) (h2 : sc.names.lookup y = some .local) (h4 : (py.line == pos.line && !(scope.names.any fun (n, k) => n == y && (k == .local || k == .cell))) = true) :
    (pure (X.env.blockKind == .function && X.env.kindOf y == some .local && py.line == pos.line && !(scope.names.any fun (n, k) => n == y && (k == .local || k == .cell))) : Sem Bool) = pure true := by
  have hb : X.env.blockKind = .function := by
    unfold Env.blockKind
    rw [xo.s, eq_of_beq hk]
    rfl
  have hy : X.env.kindOf y = some .local := by show X.env.scope.names.lookup y = _; rw [xo.s]; exact h2
  rw [hb, hy]
  rw [Bool.and_assoc, h4]
  rfl
theorem dS_asc {i : Nat} {t : Tg} {k : Ck} {it cs : Es} {e : E} {N' : List Str} {cap : List Nat} {elt tg iter : PySem.Expr} {ifs : List PySem.Expr} {scope : Scope} {y : Str} {py pos spos : Pos} (h1 : N[i]? = some y) (hk : (sc.kind == .function) = true) (h2 : sc.names.lookup y = some .local) (h4 : (py.line == pos.line && !(scope.names.any fun (n, k) => n == y && (k == .local || k == .cell))) = true)
    (B : Blk N sc N' cap scope) (ns : noSet iter = true) (ht : chkT' N' scope t tg = true) (hi : SIt N sc G k it iter) (hc : SBs N' (relab scope sc) G cs ifs) (he : SE N' (relab scope sc) G e elt) (tk : tgOk k tg = true := by rfl) : SS N sc G (.asc i (.comp t k it cs e N' cap)) (.Assign [.Name y py] (.ListComp elt [⟨tg, iter, ifs, 0⟩] scope pos) spos) := fun {X ca cl W Wx rz} xo go hfn xx hz => by
  refine (comp_ps (i := i) xo B.S B.capL B.nN B.fr (comp_blk B ht hc he xo go) ns (comp_w (cl := cl) hi tk xo go) h1 h2 (swap_yes xo hk h2 h4)).wk fun Z s H q => ?_
  refine TDS.one (fun r h => by rw [xs]) q fun m2 r h2 H2 dx y w2 st2 rx o => ?_
  exact o m2 H2 .refl w2 _ (st2.set i rx)
theorem dS_ex {a : E} {v : PySem.Expr} {pos : Pos} (h3 : noComp v = true) (h_a : SE N sc G a v) : SS N sc G (.ex a) (.Expr v pos) := fun {X ca cl W Wx rz} xo go hfn xx hz => by
  refine (ps_expr (h_a xo go).1 (noComp_sw h3)).wk fun Z s H q => ?_
  refine TDS.one (fun r h => by rw [xs]) q fun m2 r h2 H2 dx y w2 st2 rx o => ?_
  exact o m2 H2 .refl w2 _ st2
theorem dS_ret {a : E} {v : PySem.Expr} {pos : Pos} (h_a : SE N sc G a v) : SS N sc G (.ret a) (.Return (some v) pos) := fun {X ca cl W Wx rz} xo go hfn xx hz => by
  refine (ps_ret (h_a xo go).1).wk fun Z s H q => ?_
  refine TDS.one (fun r h => by rw [xs]) q fun m2 r h2 H2 dx y w2 st2 rx o => ?_
  exact o m2 H2 .refl w2 _ rx
theorem dS_iff {a : E} {b1 b2 : Ss} {t : PySem.Expr} {x y : List PySem.Stmt} {pos : Pos} (h_a : SE N sc G a t) (h_b1 : SSs N sc G b1 x) (h_b2 : SSs N sc G b2 y) : SS N sc G (.iff a b1 b2) (.If t x y pos) := fun {X ca cl W Wx rz} xo go hfn xx hz => by
  have hz' : (rz = true \/ noRss b1 = true) /\ (rz = true \/ noRss b2 = true) := by
    rcases hz with z | z
    · exact ⟨.inl z, .inl z⟩
    · have z' : (noRss b1 && noRss b2) = true := z
      rw [Bool.and_eq_true] at z'
      exact ⟨.inr z'.1, .inr z'.2⟩
  refine (ps_if ((h_a xo go).2) (h_b1 (W := W) xo go hfn xx hz'.1) (h_b2 (W := W) xo go hfn xx hz'.2)).wk fun Z s H ⟨m, r, hh, w, st, o⟩ => ?_
  rw [xs] at o
  obtain ⟨dx, h1, e0, o⟩ := o.nx
  split at o
  · rename_i et
    exact ⟨m, r, hh, dx, h1, true, w, st, e0, et, fun m' H' g w' => iteT ⟨m', r, h1, w', st.mono g, o.mono g⟩⟩
  · rename_i et
    exact ⟨m, r, hh, dx, h1, false, w, st, e0, et, fun m' H' g w' => iteF ⟨m', r, h1, w', st.mono g, o.mono g⟩⟩
  · exact o.elim
theorem dS_for1 {t : Tg} {a : E} {b : Ss} {tg y : PySem.Expr} {x : List PySem.Stmt} {p pos' pos : Pos} (h1 : chkT N sc t tg = true) (h6 : glB sc "range" = true) (h7 : noStar y = true) (h_a : SE N sc G a y) (h_b : SSs N sc G b x) : SS N sc G (.forr t (.r1 a) b) (.For tg (.Call (.Name "range" p) [y] [] pos') x [] pos) := fun {X ca cl W Wx rz} xo go hfn xx hz => by
  have hs : ∀ z, foldedSetIterable (.Call (.Name "range" p) [y] [] pos') X.env z = pure z := fun z => rfl
  have hA : PA X [y] (tCons (TDE X.K (ev G cl a)) tNil) := pa_cons (h_a xo go).1 pa_nil (star_one [] h7)
  refine (ps_for xo.po xo.calm (pi_range1 (glB_ok xo h6) xo.rng hA (star_one [] h7)) (pgT xo hfn h1) (h_b (W := W) xo go hfn xx hz) hs).wk fun Z s H q => ?_
  refine TDS.one (fun r h => by rw [xs]) q fun m2 r h2 H2 dx y w2 st2 rx o => ?_
  cases rx <;> first | exact o.elim | skip
  rename_i j
  simp only at o
  split at o
  · rename_i ho
    refine ⟨j, rfl, ho.1, ho.2, ?_⟩
    have := for_rngD (lo := 0) (hi := j) w2 st2 o
    simpa using this
  · exact o.elim
theorem dS_whl {a : E} {b : Ss} {t : PySem.Expr} {x : List PySem.Stmt} {pos : Pos} (h_a : SE N sc G a t) (h_b : SSs N sc G b x) : SS N sc G (.whl a b) (.While t x [] pos) := fun {X ca cl W Wx rz} xo go hfn xx hz => by
  refine (ps_while xo.po (h_a xo go).2 (h_b (W := W) xo go hfn xx hz)).wk fun Z s H ⟨m, r, hh, w, st, o⟩ => ?_
  rw [xs] at o
  exact whileD w st o
theorem ds_nil : SSs N sc G .nil [] := fun {X ca cl W Wx rz} xo go hfn xx hz => (pss_nil).wk fun Z s H ⟨m, r, hh, w, st, o⟩ => by
    rw [xss] at o
    exact o m H .refl w s st
theorem ds_cons {a : S} {l : Ss} {x : PySem.Stmt} {xs' : List PySem.Stmt} (h_a : SS N sc G a x) (h_l : SSs N sc G l xs') : SSs N sc G (.cons a l) (x :: xs') := fun {X ca cl W Wx rz} xo go hfn xx hz => by
  have hz' : (rz = true \/ noRs a = true) /\ (rz = true \/ noRss l = true) := by
    rcases hz with z | z
    · exact ⟨.inl z, .inl z⟩
    · have z' : (noRs a && noRss l) = true := z
      rw [Bool.and_eq_true] at z'
      exact ⟨.inr z'.1, .inr z'.2⟩
  refine (pss_cons (h_a (W := W) xo go hfn xx hz'.1) (h_l (W := W) xo go hfn xx hz'.2)).wk fun Z s H ⟨m, r, hh, w, st, o⟩ => ?_
  rw [xss] at o
  refine ⟨m, r, hh, w, st, ?_⟩
  cases ho : xs G cl W a r hh with
  | bad => rw [ho] at o; exact o
  | exc c rr h1 => rw [ho] at o; exact o
  | ok f h1 =>
    rw [ho] at o
    intro m1 H1 g1 w1
    have o' := OutS.mono g1 o
    cases f with
    | nx r2 => exact fun s' st' => ⟨m1, r2, h1, w1, st', o'⟩
    | rt d => exact o' m1 H1 .refl w1
    | bk r2 => exact o' m1 H1 .refl w1
    | ct r2 => exact o' m1 H1 .refl w1
end
end Ng
end
section
namespace Ng
open PySem PySem.Spec PyProof.Rows L2
section
variable {N : List Str} {sc : Scope} {G : Gs}
theorem dS_asgL {l : List Nat} {a : E} {es : List PySem.Expr} {k : Nat} {px pos : Pos} {v : PySem.Expr} (h1 : chkNs N sc l es = true) (h3 : noComp v = true) (hw : ∀ env, swappedStores [.Tuple es k px] v env = pure none) (h_a : SE N sc G a v) : SS N sc G (.asgL l a) (.Assign [.Tuple es k px] v pos) := fun {X ca cl W Wx rz} xo go hfn xx hz => by
  refine (ps_asg (h_a xo go).1 (pgL xo hfn (k := k) (pos := px) h1) (noComp_sole h3) (hw X.env) rfl).wk fun Z s H q => ?_
  refine TDS.one (fun r h => by rw [xs]) q fun m2 r h2 H2 dx y w2 st2 rx o => ?_
  obtain ⟨n, rfl⟩ : ∃ n, dx = .ref n := by cases dx <;> first | exact ⟨_, rfl⟩ | exact o.elim
  have o' : OutS X.K Wx m2 H2 Z (match lstAt h2 n with | some ds => (if ds.length = l.length then .ok (.nx (setAll l ds r)) h2 else .bad) | none => .bad) := o
  split at o'
  · rename_i ds el
    split at o'
    · rename_i hl
      exact ⟨m2, h2, r, n, ds, w2, st2, rx, el, hl, fun s' st' => o' m2 H2 .refl w2 s' st'⟩
    · exact o'.elim
  · exact o'.elim
end
end Ng
end
section
namespace Ng
open PySem PySem.Spec PyProof.Rows L2
section
variable {prog : Program} {w : World} {A : Around} {E : Value -> Shared -> Prop} {s : Shared}
theorem star_end {items : List Value} {x : Value} {R : List Value -> Shared -> Prop} (hz : items.length <= 2000)
    (fin : R [x, .ref s.heap.objs.size] { s with heap := s.heap.push { cls := .type "list", data := .seq items.toArray } }) :
    wpAny (model prog w) A (newList (items.take (items.length - (2 - 1 - 1))) >>= fun d => pure ([x] ++ [d] ++ items.drop (items.length - (2 - 1 - 1)))) R E s := by
  have e1 : items.take (items.length - (2 - 1 - 1)) = items := List.take_of_length_le (by omega)
  have e2 : items.drop (items.length - (2 - 1 - 1)) = [] := List.drop_of_length_le (by omega)
  rw [e1, e2]
  exact wpAny_bind (wpAny_newList (wpAny_pure fin) (Nat.le_trans hz (by decide)))
theorem star_lst {a : Addr} {x : Value} {l : List Value} {R : List Value -> Shared -> Prop} (hh : A.handled = none) (hl : s.heap.IsList a (x :: l).toArray) (hz : l.length <= 1000)
    (fin : ∀ (g : Heap) (tk : Nat), (∀ b o, s.heap.get? b = some o -> g.get? b = some o) -> R [x, .ref g.objs.size] { s with heap := g.push { cls := .type "list", data := .seq l.toArray }, toks := tk }) : wpAny (model prog w) A (unpackItems (.ref a) 2 (some 1)) R E s := by
  have ne : a ≠ s.heap.objs.size := by obtain ⟨o, ho, _⟩ := hl; exact Nat.ne_of_lt (Heap.lt_size ho)
  unfold unpackItems
  refine wpAny_bind ?_
  unfold notIterableAtAll
  refine wpAny_bind (wpAny_specialOf hl.typeIs slot_list_iter.lookup (wpAny_pure ?_))
  simp only [Bool.false_eq_true, if_false]
  refine wpAny_bind (wpAny_holding (wpAny_pyIter_list hl ?_))
  refine wpAny_bind (wpAny_holding (draw_lst ne 1 0 _ _ ⟨_, Heap.get?_push_size _ rfl, rfl, rfl⟩ (hl.push _) (by simp) fun g1 i1 s1 => ?_))
  have l1 : g1.IsList a (x :: l).toArray := (hl.push _).extBut s1.extBut ne
  obtain ⟨oi, hoi, _⟩ := id i1
  obtain ⟨ol, hol, _⟩ := id l1
  show wpAny _ _ (if ([x] : List Value).length < 1 then _ else _) _ _ _
  rw [if_neg (by simp)]
  refine wpAny_bind (wpAny_holding (PySem.W.kun_collect (s := { s with heap := g1 }) (T := "list_iterator") (.inr (.inr (.inl rfl))) (Walks.list (A := A.in1) hh s.heap.objs.size a ne _) (fun j u st => st.1.typeIs) (k := 1) (by simp) ⟨i1, l1⟩ (Heap.lt_size hoi) (Heap.lt_size hol) (fun g2 tk hk => ?_) (by rw [List.size_toArray]; exact Nat.le_trans (show l.length + 1 <= 1001 by omega) (by decide))))
  show wpAny _ _ (if l.length < 2 - 1 - 1 then _ else _) _ _ _
  rw [if_neg (by omega)]
  exact star_end (s := { s with heap := g2, toks := tk }) (items := l) (by omega) (fin g2 tk fun b o e => hk b o (Nat.ne_of_lt (Heap.lt_size e)) (s1.extBut b o (Nat.ne_of_lt (Heap.lt_size e)) (Heap.get?_push_of_some _ e)))
theorem star_tup {a : Addr} {x : Value} {l : List Value} {R : List Value -> Shared -> Prop} (hh : A.handled = none) (hl : IsTup s.heap a (x :: l).toArray) (hz : l.length <= 1000)
    (fin : ∀ (g : Heap) (tk : Nat), (∀ b o, s.heap.get? b = some o -> g.get? b = some o) -> R [x, .ref g.objs.size] { s with heap := g.push { cls := .type "list", data := .seq l.toArray }, toks := tk }) : wpAny (model prog w) A (unpackItems (.ref a) 2 (some 1)) R E s := by
  have ne : a ≠ s.heap.objs.size := by obtain ⟨o, ho, _⟩ := hl; exact Nat.ne_of_lt (Heap.lt_size ho)
  unfold unpackItems
  refine wpAny_bind ?_
  unfold notIterableAtAll
  refine wpAny_bind (wpAny_specialOf hl.typeIs slot_tuple_iter.lookup (wpAny_pure ?_))
  simp only [Bool.false_eq_true, if_false]
  refine wpAny_bind (wpAny_holding (iter_tuple hl ?_))
  refine wpAny_bind (wpAny_holding (draw_tuple ne 1 0 _ _ ⟨_, Heap.get?_push_size _ rfl, rfl, rfl⟩ (hl.push _) (by simp) fun g1 i1 s1 => ?_))
  have l1 : IsTup g1 a (x :: l).toArray := (hl.push _).extBut s1.extBut ne
  obtain ⟨oi, hoi, _⟩ := id i1
  obtain ⟨ol, hol, _⟩ := id l1
  show wpAny _ _ (if ([x] : List Value).length < 1 then _ else _) _ _ _
  rw [if_neg (by simp)]
  refine wpAny_bind (wpAny_holding (PySem.W.kun_collect (s := { s with heap := g1 }) (T := "tuple_iterator") (.inr (.inr (.inr rfl))) (Walks.tuple (A := A.in1) hh s.heap.objs.size a ne _) (fun j u st => st.1.typeIs) (k := 1) (by simp) ⟨i1, l1⟩ (Heap.lt_size hoi) (Heap.lt_size hol) (fun g2 tk hk => ?_) (by rw [List.size_toArray]; exact Nat.le_trans (show l.length + 1 <= 1001 by omega) (by decide))))
  show wpAny _ _ (if l.length < 2 - 1 - 1 then _ else _) _ _ _
  rw [if_neg (by omega)]
  exact star_end (s := { s with heap := g2, toks := tk }) (items := l) (by omega) (fin g2 tk fun b o e => hk b o (Nat.ne_of_lt (Heap.lt_size e)) (s1.extBut b o (Nat.ne_of_lt (Heap.lt_size e)) (Heap.get?_push_of_some _ e)))
end
section
variable {N : List Str} {sc : Scope} {G : Gs}
def TDGS (K : PySem.W.Frag) (i j : Nat) : TG := fun v s H Q => ∃ m hh r dx d ds, Wd K m hh H /\ RSt K m H r s /\ RD K m H dx v /\ seqD dx hh = some (d :: ds) /\ ds.length <= 1000 /\ ∀ m' H' s', Gr K m H m' H' -> Wd K m' (hh ++ [.lst ds]) H' -> RSt K m' H' ((r.set i (some d)).set j (some (.ref hh.length))) s' -> Q s' H'
theorem pgS {X : Cx} (xo : XOk X N sc) (hfn : ∀ x, X.fn x = true) {i j : Nat} {x y : Str} {p1 p2 p3 px : Pos} {k : Nat} (h1 : N[i]? = some x) (h2 : N[j]? = some y) (h3 : (locB sc x && locB sc y) = true) : PG X (.Tuple [.Name x p1, .Starred (.Name y p2) p3] k px) (TDGS X.K i j) := by
  rw [Bool.and_eq_true] at h3
  have g1 : PG X (.Name x p1) (gName i) := pg_name xo.nd (by rw [xo.n]; exact h1) (by rw [xo.s]; exact locB_ok h3.1) (.inl (hfn x))
  have g2 : PG X (.Name y p2) (gName j) := pg_name xo.nd (by rw [xo.n]; exact h2) (by rw [xo.s]; exact locB_ok h3.2) (.inl (hfn y))
  have gs : PGs X [.Name x p1, .Name y p2] _ := pgs_cons g1 (pgs_cons g2 pgs_nil rfl) rfl
  intro pins s σ H v u Q I r ⟨m, hh, rr, dx, d, ds, w, st, rd, es, hz, c⟩
  rw [arm_assign_Tuple]
  refine wpAny_bind (wpAny_standAt ?_)
  unfold unpack
  show wpAny _ _ (holding [u] (unpackItems u 2 (some 1)) >>= fun l => assignInOrder [assign (.Name x p1) X.env, assign (.Name y p2) X.env] l) _ _ _
  have key : ∀ (a : Addr) (ux : Value) (ul : List Value) (v1 : V) (vl : List V), RelV v1 ux -> Vals vl ul -> RD X.K m H d v1 -> RDs X.K m H ds vl -> ∀ (g : Heap) (tk : Nat), (∀ b o, s.heap.get? b = some o -> g.get? b = some o) ->
      wpAny (model X.prog X.w) X.A (assignInOrder [assign (.Name x p1) X.env, assign (.Name y p2) X.env] [ux, .ref g.objs.size]) (fun _ s' => ∃ σ' H', Inv X pins σ' H' s' /\ Q σ' H') X.xe { s with heap := g.push { cls := .type "list", data := .seq ul.toArray }, toks := tk } := fun a ux ul v1 vl r1 rl d1 dl g tk hk => by
    have I1 : Inv X pins σ H { s with heap := g, toks := tk } := I.kept hk
    have I2 := I1.lnew (t' := tk) rl (by rw [<- dl.length]; exact Nat.le_trans hz (by decide))
    have fr : H g.objs.size = none := I1.hok.fresh (Nat.le_refl _)
    obtain ⟨w2, gr⟩ := w.lstNew fr dl
    refine gs pins _ σ _ [v1, .ref g.objs.size] _ Q I2 (.cons r1 (.cons rfl .nil)) ⟨_, _, rfl, _, _, rfl, rfl, c _ _ _ gr w2 (((st.mono gr).set i (d1.mono gr)).set j (.ref (by rw [<- w.len]; simp)))⟩
  cases dx with
  | tup l =>
    cases es
    cases rd with
    | tup hq q =>
      cases q with
      | cons q1 q =>
      cases r
      obtain ⟨its, rv, p, _⟩ := I.tuple hq
      cases rv with
      | cons rv1 rv =>
      refine wpAny_bind (wpAny_holding (star_tup (I.ok.hd xo.calm) p (by rw [<- rv.length, <- q.length]; exact hz) fun g tk hk => key 0 _ _ _ _ rv1 rv q1 q g tk hk))
  | ref n =>
    cases rd with
    | ref ha =>
      obtain ⟨a', vs, ha', hq, q⟩ := w.lst es
      rw [ha] at ha'; cases ha'
      cases q with
      | cons q1 q =>
      cases r
      obtain ⟨its, rv, p, _⟩ := I.list hq
      cases rv with
      | cons rv1 rv =>
      refine wpAny_bind (wpAny_holding (star_lst (I.ok.hd xo.calm) p.isList (by rw [<- rv.length, <- q.length]; exact hz) fun g tk hk => key 0 _ _ _ _ rv1 rv q1 q g tk hk))
  | _ => cases es
theorem dS_asgS {i j : Nat} {a : E} {x y : Str} {p1 p2 p3 px pos : Pos} {k : Nat} {v : PySem.Expr} (h1 : N[i]? = some x) (h2 : N[j]? = some y) (h3 : (locB sc x && locB sc y) = true) (h4 : noComp v = true) (hw : ∀ env, swappedStores [.Tuple [.Name x p1, .Starred (.Name y p2) p3] k px] v env = pure none) (h_a : SE N sc G a v) :
    SS N sc G (.asgS i j a) (.Assign [.Tuple [.Name x p1, .Starred (.Name y p2) p3] k px] v pos) := fun {X ca cl W Wx rz} xo go hfn xx hz => by
  refine (ps_asg (h_a xo go).1 (pgS xo hfn (k := k) (px := px) h1 h2 h3) (noComp_sole h4) (hw X.env) rfl).wk fun Z s H q => ?_
  refine TDS.one (fun r h => by rw [xs]) q fun m2 r h2 H2 dx y w2 st2 rx o => ?_
  split at o
  · rename_i d ds es
    split at o
    · rename_i hl
      exact ⟨m2, h2, r, dx, d, ds, w2, st2, rx, es, hl, fun m' H' s' g w' st' => o m' H' g w' s' st'⟩
    · exact o.elim
  · exact o.elim
theorem dS_never {st : PySem.Stmt} : SS N sc G .never st := fun {X ca cl W Wx rz} xo go hfn xx hz => fun pins s σ H Z I ⟨m, r, h, w, st, o⟩ => o.elim
theorem it_r2 {a b : E} {y z : PySem.Expr} {p pos : Pos} (hg : glB sc "range" = true) (hs : noStar y = true) (hs' : noStar z = true) (ha : SE N sc G a y) (hb : SE N sc G b z) : SIt N sc G .r2 (.cons a (.cons b .nil)) (.Call (.Name "range" p) [y, z] [] pos) := fun {X ca cl} xo go {t tg ft fe N' cap} tk pins s σ H m r h xs h1 h' I w st e1 e3 => by
  have hA := sa_cons hs ha (sa_cons hs' hb (sa_nil (N := N) (sc := sc) (G := G)))
  refine pi_range2 (glB_ok xo hg) xo.rng (hA.2 xo go) (by rw [star_one [z] hs, star_one [] hs']; rfl) (star_one [] hs') pins s σ H _ I ⟨m, r, h, xs, h1, w, st, e1, fun m' vs H' g w' rv => ?_⟩
  obtain ⟨i, j, rfl⟩ : ∃ i j, xs = [.int i, .int j] := by
    rcases xs with _ | ⟨a, _ | ⟨b, _ | ⟨c, xs⟩⟩⟩
    · cases e3
    · cases a <;> cases e3
    · cases a <;> first | (cases e3; done) | skip
      cases b <;> first | (cases e3; done) | skip
      exact ⟨_, _, rfl⟩
    · cases a <;> first | (cases e3; done) | skip
      cases b <;> cases e3
  simp only [compL] at e3
  split at e3
  · rename_i ho
    cases rv with
    | cons rx rv =>
    cases rv with
    | cons ry rv =>
      cases rx; cases ry; cases rv
      exact ⟨i, j, rfl, ⟨ho.1.1, ho.1.2, ho.2.1, ho.2.2⟩, m', _, rfl, g, w', turns_rng (K := X.K) (m2 := m') (H2 := H') (lo := i) (hi := j) e3⟩
  · cases e3
end
end Ng
end
section
namespace Ng
open PySem PySem.Spec PyProof.Rows L2
structure Fc where
  np : Nat
  ns : Nat
  body : Ss
def endD : Fl -> Hh -> Rs D
  | .rt d, h => .ok d h
  | .nx _, h => .ok .non h
  | _, _ => .bad
noncomputable def callD (G : Gs) (T : Nat -> Option Fc) (W : Nat) : Nat -> Cl
  | 0, _, _, _ => .bad
  | n + 1, f, ds, h => match T f with
    | none => .bad
    | some c => if ds.length = c.np then (xss G (callD G T W n) W c.body (ds.map some ++ List.replicate (c.ns - c.np) none) h).bind endD else .bad
structure FmOk (K : PySem.W.Frag) (G : Gs) (P : Addr -> Prop) (x : Str) (c : Fc) : Prop where
  ex : ∃ st fa fd N ps qual, Fun K x qual st fa fd /\ FnScope N ps (defScope st) /\ ps.length = c.np /\ N.length = c.ns /\ Binds K fd ps [] /\ P fa /\ SSs N (defScope st) G c.body (defBody st)
abbrev FcOk (K : PySem.W.Frag) (mg : Str -> Option Value) (G : Gs) (x : Str) (c : Fc) : Prop := FmOk K G (fun fa => mg x = some (.ref fa)) x c
def AllP {α : Type} (P : Nat -> α -> Prop) : Nat -> List α -> Prop
  | _, [] => True
  | i, a :: l => P i a /\ AllP P (i + 1) l
theorem AllP.get {α : Type} {P : Nat -> α -> Prop} : ∀ {l : List α} {i : Nat}, AllP P i l -> ∀ {f : Nat} {x : α}, l[f]? = some x -> P (i + f) x
  | _ :: _, _, h, 0, _, e => by cases e; exact h.1
  | _ :: l, i, h, f + 1, x, e => by
    have q := AllP.get h.2 (f := f) (x := x) (by simpa using e)
    rwa [show i + 1 + f = i + (f + 1) by omega] at q
theorem AllP.get0 {α : Type} {P : Nat -> α -> Prop} {l : List α} (h : AllP P 0 l) {f : Nat} {x : α} (e : l[f]? = some x) : P f x := by
  have q := AllP.get h e
  rwa [Nat.zero_add] at q
theorem len1 {us : List Value} (h : us.length = 1) : ∃ a, us = [a] := List.length_eq_one_iff.mp h
theorem len2 {us : List Value} (h : us.length = 2) : ∃ a b, us = [a, b] := by
  match us, h with
  | [a, b], _ => exact ⟨a, b, rfl⟩
theorem len3 {us : List Value} (h : us.length = 3) : ∃ a b c, us = [a, b, c] := by
  match us, h with
  | [a, b, c], _ => exact ⟨a, b, c, rfl⟩
theorem AllP.mem {α : Type} {P : α -> Prop} : ∀ {l : List α} {i : Nat}, AllP (fun _ => P) i l -> ∀ {x : α}, x ∈ l -> P x
  | _ :: _, _, h, _, .head _ => h.1
  | _ :: _, _, h, _, .tail _ q => AllP.mem h.2 q
structure PrOk (K : PySem.W.Frag) (mg : Str -> Option Value) (G : Gs) (ca : Nat -> Addr) (T : Nat -> Option Fc) : Prop where
  fn : ∀ (f : Nat) (x : Str), G.fns[f]? = some x -> ∃ c, T f = some c /\ FcOk K mg G x c
  cst : ∀ (g : Nat) (x : Str) (d : D), G.csts[g]? = some (x, d) -> ∃ v u, mg x = some u /\ RelV v u /\ ∀ m H, RD K m H d v
  blt : ∀ f : Blt, mg f.nm = none
  ty : ∀ t : Ty, mg (Str.ofString t.nm) = none
  rng : mg "range" = none
  exc : ∀ (c : Nat) (x : Str), G.excs[c]? = some x -> mg x = some (.ref (ca c)) /\ ExcF K (ca c)
  sub : ∀ p ∈ G.sub, PySem.W.exmOne K (.ref (ca p.1)) (.ref (ca p.2)) = some true /\ PySem.W.kitOne K (.ref (ca p.1)) (.ref (ca p.2)) = some true /\ ExcF K (ca p.1)
  nsub : ∀ p ∈ G.nsub, PySem.W.kitOne K (.ref (ca p.1)) (.ref (ca p.2)) = some false /\ ExcN K (ca p.1)
  verr : mg "ValueError" = none
  att : ∀ p ∈ G.atts, ∃ C, PySem.W.nsIn K mainGlobals p.1 = some (some (.ref C)) /\ Cls K C /\ NoAttr K C p.2
  meth : ∀ p ∈ G.meths, ∃ C c, PySem.W.nsIn K mainGlobals p.1 = some (some (.ref C)) /\ Cls K C /\ T p.2.2 = some c /\ FmOk K G (fun fa => Meth K C p.2.1 fa) p.2.1 c
  new : ∀ p ∈ G.news, ∃ C c, PySem.W.nsIn K mainGlobals p.1 = some (some (.ref C)) /\ mg p.1 = some (.ref C) /\ T p.2 = some c /\ FmOk K G (fun fa => Mk K C fa) "__init__" c
theorem RSt.start {K : PySem.W.Frag} {m : List Addr} {H : Hp} {ds : List D} {vs : List V} (r : RDs K m H ds vs) (k : Nat) : RSt K m H (ds.map some ++ List.replicate k none) (vs.map some ++ List.replicate k none) := by
  refine ⟨by simp [r.length], fun i d e => ?_⟩
  by_cases hi : i < ds.length
  · rw [List.getElem?_append_left (by simpa using hi), List.getElem?_map] at e
    cases z : ds[i]? with
    | none => rw [z] at e; cases e
    | some d' =>
      rw [z] at e
      have e' : d' = d := by
        have e2 : some (some d') = some (some d) := e
        injection e2 with e2; injection e2
      subst e'
      obtain ⟨v, hv, rv⟩ := r.get z
      exact ⟨v, by rw [List.getElem?_append_left (by rw [List.length_map, <- r.length]; exact hi), List.getElem?_map, hv]; rfl, rv⟩
  · rw [List.getElem?_append_right (by simpa using hi), List.getElem?_replicate] at e
    split at e <;> cases e
section
variable {P : Program} {w : World} {K : PySem.W.Frag} {mg : Str -> Option Value} {base : Heap} {G : Gs} {ca : Nat -> Addr} {T : Nat -> Option Fc} {W : Nat}
theorem _root_.L2.Fun.okX {x qual : Str} {st : PySem.Stmt} {f : Addr} {fd : FuncData} {N ps : List Str} {k : Nat} {sp : Sp} (F : Fun K x qual st f fd) (S : FnScope N ps (defScope st)) (len : ∀ vs H Q E, sp vs H Q E -> vs.length = ps.length)
    (hbody : ∀ (cdv : Value) (A : Around) (outer : List Env) (s : Shared) (H : Hp) (vs : List V) (Q : VK) (E : XK), Room k (A.deeper (envOfC qual (defScope st) s.heap.objs.size f cdv)) -> sp vs H Q E ->
      ∃ t, PSs (cxOf (CX1 P w) P w K mg base N qual (defScope st) f cdv A outer s H E) (defBody st) t /\ t { nx := fun _ H' => Q .non H', rt := Q } (start N vs) H) : FnOk P w K mg base (CX1 P w) (k + 1) f fd ps sp := by
  obtain ⟨oc, od, kV, doc, pm, an, cdv, ct, osl, rfl, lk, hcd⟩ := F.ex
  exact fn_of lk hcd S len fun A outer s H vs Q E hr hsp => hbody cdv A outer s H vs Q E hr hsp
abbrev AllFn (P : Program) (w : World) (K : PySem.W.Frag) (mg : Str -> Option Value) (base : Heap) (G : Gs) (ca : Nat -> Addr) (T : Nat -> Option Fc) (W n : Nat) : Prop := ∀ (f : Nat) (x : Str) (c : Fc) (R : Addr -> Prop), T f = some c -> FmOk K G R x c -> ∃ fa fd ps, FnOk P w K mg base (CX1 P w) (2 * n) fa fd ps (spD K ca (callD G T W n f) ps.length) /\ R fa /\ PySem.W.keepIn K (.ref fa) = true /\ Binds K fd ps [] /\ ∀ ds h, callD G T W n f ds h ≠ .bad -> ds.length = ps.length
theorem fn_step (pr : PrOk K mg G ca T) {n f : Nat} (ih : AllFn P w K mg base G ca T W n) {x qual : Str} {c : Fc} {st : PySem.Stmt} {fa : Addr} {fd : FuncData} {N ps : List Str} (hc : T f = some c) (F : Fun K x qual st fa fd) (S : FnScope N ps (defScope st)) (h1 : ps.length = c.np) (h2 : N.length = c.ns)
    (hk : SSs N (defScope st) G c.body (defBody st)) : FnOk P w K mg base (CX1 P w) (2 * n + 1 + 1) fa fd ps (spD K ca (callD G T W (n + 1) f) ps.length) := by
  refine F.okX S (fun vs H Q E h => h.1) (fun cdv A outer s H vs Q E hr h => ?_)
  obtain ⟨hl, m, h, ds, wd, rd, o⟩ := h
  simp only [callD, hc] at o
  have hlen : ds.length = c.np := by rw [rd.length, hl, h1]
  rw [if_pos hlen] at o
  let X : Cx := cxOf (CX1 P w) P w K mg base N qual (defScope st) fa cdv A outer s H E
  have xo : XOk X N (defScope st) := ⟨rfl, rfl, rfl, S.nd, ⟨_, hr⟩, pr.rng, PassesOwn.leaving⟩
  have hr0 : Room (2 * n) X.A := hr.mono (Nat.le_succ _)
  have go : GOk X G ca (callD G T W n) := ⟨fun f' x' hf' => by
    obtain ⟨c', hc', fc⟩ := pr.fn f' x' hf'
    obtain ⟨fa', fd', ps', F', hm', hk', hb', hl'⟩ := ih f' x' c' _ hc' fc
    exact ⟨fa', fd', ps', _, F', hr0, hm', hk', hb', hl'⟩, pr.cst, pr.blt, pr.ty, pr.exc, pr.sub, pr.nsub, pr.verr, ⟨pr.att, fun p hp => by
      obtain ⟨C, c', hC, cls, hc', fc⟩ := pr.meth p hp
      obtain ⟨fa', fd', ps', F', hm', hk', hb', hl'⟩ := ih p.2.2 p.2.1 c' _ hc' fc
      exact ⟨C, fa', fd', ps', _, hC, cls, hm', F', hr0, hb', hl'⟩, fun p hp => by
      obtain ⟨C, c', hC, hmC, hc', fc⟩ := pr.new p hp
      obtain ⟨fa', fd', ps', F', hm', hk', hb', hl'⟩ := ih p.2 _ c' _ hc' fc
      exact ⟨C, fa', fd', ps', _, hC, hmC, hm', F', hr, hb', hl'⟩⟩⟩
  refine ⟨_, hk (W := W) xo go (fun _ => rfl) fnXX (.inl rfl), m, ds.map some ++ List.replicate (c.ns - c.np) none, h, wd, ?_, ?_⟩
  · show RSt K m H _ (vs.map some ++ List.replicate (N.length - vs.length) none)
    rw [show N.length - vs.length = c.ns - c.np by omega]
    exact RSt.start rd _
  · cases hx : xss G (callD G T W n) W c.body (ds.map some ++ List.replicate (c.ns - c.np) none) h with
    | bad => rw [hx] at o; exact o
    | exc c' r' h' =>
      rw [hx] at o
      exact fun m' H' s' g w' _ v => o m' H' v g w'
    | ok fl h' =>
      rw [hx] at o
      intro m' H' g w'
      cases fl with
      | rt d' => exact fun v rv => o m' v H' g w' rv
      | nx r' => exact fun s' _ => o m' .non H' g w' .non
      | bk r' => exact o.elim
      | ct r' => exact o.elim
theorem fn_all (pr : PrOk K mg G ca T) : ∀ n : Nat, AllFn P w K mg base G ca T W n := by
  intro n
  induction n with
  | zero =>
    intro f x c R hc ⟨st, fa, fd, N, ps, qual, F, S, h1, h2, hb, hm, hk⟩
    refine ⟨fa, fd, ps, ⟨fun vs H Q E h => h.1, fun A outer s H args us vs Q E _ _ _ _ h => ?_⟩, hm, F.kp, hb, fun ds h e => absurd rfl e⟩
    obtain ⟨_, m, h, ds, _, _, o⟩ := h
    exact o.elim
  | succ n ih =>
    intro f x c R hc ⟨st, fa, fd, N, ps, qual, F, S, h1, h2, hb, hm, hk⟩
    refine ⟨fa, fd, ps, fn_step pr ih hc F S h1 h2 hk, hm, F.kp, hb, fun ds h e => ?_⟩
    simp only [callD, hc] at e
    by_cases hn : ds.length = c.np
    · rw [hn, h1]
    · rw [if_neg hn] at e
      exact absurd rfl e
end
theorem sqR_of {K : PySem.W.Frag} {H : Hp} {a : Addr} {xs : List V} (hO : Only H) (h : SqL K H a xs) : SqR K H a xs := by
  rcases h with (h | h) | h
  · rcases hO a with z | ⟨o, ys, z⟩
    · rw [z] at h; cases h
    · rw [z] at h; cases h
  · exact .inl h
  · exact .inr h
def spO (K : PySem.W.Frag) (f : List D -> Hh -> Rs D) (n : Nat) : Sp := fun vs H Q _ => vs.length = n /\ ∃ m h ds d h', Wd K m h H /\ RDs K m H ds vs /\ f ds h = .ok d h' /\ ∀ m' v H', Gr K m H m' H' -> Wd K m' h' H' -> RD K m' H' d v -> Q v H'
theorem spO_D {K : PySem.W.Frag} {ca : Nat -> Addr} {f : List D -> Hh -> Rs D} {n : Nat} {vs : List V} {H : Hp} {Q : VK} {E : XK} (h : spO K f n vs H Q E) : spD K ca f n vs H Q E := by
  obtain ⟨hl, m, h, ds, d, h', w, r, e, c⟩ := h
  exact ⟨hl, m, h, ds, w, r, by rw [e]; exact c⟩
theorem law_of {G : Gs} {T : Nat -> Option Fc} {W : Nat} {l : PySem.W.OpenLaw} {n k lw : Nat} {q : Program} {loose : List Str} {XP : (Str -> Option Value) -> Heap -> Prop} {YP : World -> Heap -> Prop} {d : DefRec} {K : Params -> PySem.W.Frag} {x : Str}
    (run : ∀ ns : List Int, ns.length <= n -> ∃ h', callD G T W (k + 1) lw [.ref 0] [.ro (ns.map D.int)] = .ok (.bl true) h')
    (hn : l.most = some n) (hn2 : n <= sizeLine) (hdf : d.params.defaults = []) (hr : Room (2 * k + 1 + 1) callerA)
    (hY : ∀ (w : World) (h : Heap), YP w h -> (K w.params).In h)
    (F : ∀ (w : World) (mg : Str -> Option Value) (fa : Addr) (h : Heap), (K w.params).In h -> h.Ns mainGlobals mg -> mg d.name = some (.ref fa) ->
      ∃ ca : Nat -> Addr, PrOk (K w.params) mg G ca T /\ ∃ fd : FuncData, (∀ (s : Shared) (u : Value), BindsTo s fd ⟨[u], []⟩ [(x, u)]) /\ ∃ c st N qual, T lw = some c /\ Fun (K w.params) d.name qual st fa fd /\ FnScope N [x] (defScope st) /\ 1 = c.np /\ N.length = c.ns /\ SSs N (defScope st) G c.body (defBody st)) :
    PySem.W.WalkO q loose XP YP l.row.toRowW d [] (fun f vs => PySem.call f vs) := by
  refine L2.walk_of (n := n) (k := 2 * k + 1 + 1) (x := x) (CX := fun w => CX1 l.prog w) (sp := fun w => spO (K w.params) (callD G T W (k + 1) lw) 1) hn hn2 hdf hr hY (fun w mg fa h KX hns hm => ?_) (fun w H a ns hl hO hS => ?_) fun _ _ _ _ _ ⟨_, _, _, _, _, _, _, _, _, z⟩ => z
  · obtain ⟨ca, pr, fd, hb, c, st, N, qual, hc, Fu, S, h1, h2, hk⟩ := F w mg fa h KX hns hm
    exact ⟨fd, hb, fun base _ _ => (fn_step pr (fn_all pr k) hc Fu S h1 h2 hk).imp fun _ _ _ _ => spO_D⟩
  · obtain ⟨h', e⟩ := run ns hl
    refine ⟨rfl, [a], [.ro (ns.map D.int)], [.ref 0], .bl true, h', ⟨rfl, fun i j b o u e1 e2 e3 e4 w1 w2 => ?_, fun i o b e1 e2 => ?_⟩, .cons (.ref rfl) .nil, e, ?_⟩
    · cases i with
      | zero =>
        cases j with
        | zero => rfl
        | succ j => simp at e4
      | succ i => simp at e3
    · cases i with
      | zero =>
        simp at e1 e2
        subst e1; subst e2
        exact ⟨_, sqR_of hO hS, RDs.ints ns⟩
      | succ i => simp at e1
    · intro m' v H' _ _ rd
      cases rd; rfl
end Ng
end
section
namespace Ng
open PySem L2
section
variable {A B : Type} (G : Gs) (cl : Cl) (W : Nat) (r : Ev) (h : Hh)
theorem beq_eq_decide' {α : Type} [BEq α] [LawfulBEq α] [DecidableEq α] (i j : α) : (i == j) = decide (i = j) := by
  by_cases e : i = j
  · subst e; simp
  · rw [decide_eq_false e]; exact beq_eq_false_iff_ne.mpr e
@[simp] theorem bindOk (a : A) (f : A -> Hh -> Rs B) : (Rs.ok a h).bind f = f a h := rfl
@[simp] theorem nxOk (a : A) : (Rs.ok a h).nx = .ok a h := rfl
@[simp] theorem nxBad : (Rs.bad : Rs A).nx = .bad := rfl
@[simp] theorem nxExc (c : Nat) (r' : Ev) : (Rs.exc c r' h : Rs A).nx = .bad := rfl
@[simp] theorem innOk (a : A) : (Rs.ok a h).inn r = .ok a h := rfl
@[simp] theorem innExc (c : Nat) (r' : Ev) : (Rs.exc c r' h : Rs A).inn r = .exc c r h := rfl
@[simp] theorem bindExc (c : Nat) (r' : Ev) (f : A -> Hh -> Rs B) : (Rs.exc c r' h : Rs A).bind f = .exc c r' h := rfl
@[simp] theorem bindBad (f : A -> Hh -> Rs B) : (Rs.bad : Rs A).bind f = .bad := rfl
@[simp] theorem evVar (i : Nat) : ev G cl (.var i) r h = (match r[i]? with | some (some d) => .ok d h | _ => .bad) := by rw [ev] <;> rfl
@[simp] theorem ge0 (a : Option D) (l : Ev) : (a :: l)[0]? = some a := rfl
@[simp] theorem gd0 (a : D) (l : List D) : (a :: l)[0]? = some a := rfl
@[simp] theorem evInt (i : Int) : ev G cl (.int i) r h = .ok (.int i) h := by rw [ev] <;> rfl
@[simp] theorem evBl (i : Bool) : ev G cl (.bl i) r h = .ok (.bl i) h := by rw [ev] <;> rfl
@[simp] theorem evNon : ev G cl .non r h = .ok .non h := by rw [ev] <;> rfl
@[simp] theorem evStr (i : Str) : ev G cl (.str i) r h = .ok (.str i) h := by rw [ev] <;> rfl
@[simp] theorem evGc (i : Nat) : ev G cl (.gc i) r h = (match G.csts[i]? with | some p => .ok p.2 h | none => .bad) := by rw [ev] <;> (cases G.csts[i]? <;> rfl)
@[simp] theorem evTy (t : Ty) : ev G cl (.ty t) r h = .ok (.ty t.nm) h := by rw [ev] <;> rfl
@[simp] theorem evBin (op : Bop) (a b : E) : ev G cl (.bin op a b) r h = (ev G cl a r h).bind fun x h => (ev G cl b r h).bind fun y h => binD op x y h := by rw [ev] <;> rfl
@[simp] theorem evNeg (a : E) : ev G cl (.neg a) r h = (ev G cl a r h).bind fun x h => match x with | .int i => .ok (.int (-i)) h | _ => .bad := by rw [ev] <;> rfl
@[simp] theorem evCmp (op : Cop) (a b : E) : ev G cl (.cmp op a b) r h = (ev G cl a r h).bind fun x h => (ev G cl b r h).bind fun y h => cmpD op x y h := by rw [ev] <;> rfl
@[simp] theorem evAnd (a b : E) : ev G cl (.and a b) r h = (ev G cl a r h).bind fun x h => match truD x h with | some true => ev G cl b r h | some false => .ok x h | none => .bad := by rw [ev] <;> rfl
@[simp] theorem evOr (a b : E) : ev G cl (.or a b) r h = (ev G cl a r h).bind fun x h => match truD x h with | some true => .ok x h | some false => ev G cl b r h | none => .bad := by rw [ev] <;> rfl
@[simp] theorem evNot (a : E) : ev G cl (.not a) r h = (ev G cl a r h).bind fun x h => match truD x h with | some b => .ok (.bl (!b)) h | none => .bad := by rw [ev] <;> rfl
@[simp] theorem evIte (c a b : E) : ev G cl (.ite c a b) r h = (ev G cl c r h).bind fun x h => match truD x h with | some true => ev G cl a r h | some false => ev G cl b r h | none => .bad := by rw [ev] <;> rfl
@[simp] theorem evIx (a b : E) : ev G cl (.ix a b) r h = (ev G cl a r h).bind fun x h => (ev G cl b r h).bind fun y h => ixD x y h := by rw [ev] <;> rfl
@[simp] theorem evTup (l : Es) : ev G cl (.tup l) r h = (evs G cl l r h).bind fun ds h => if ds.length <= 1000 then .ok (.tup ds) h else .bad := by rw [ev] <;> rfl
@[simp] theorem evLst (l : Es) : ev G cl (.lst l) r h = (evs G cl l r h).bind fun ds h => if ds.length <= 1000 then .ok (.ref h.length) (h ++ [.lst ds]) else .bad := by rw [ev] <;> rfl
@[simp] theorem evCall (f : Nat) (l : Es) : ev G cl (.call f l) r h = (evs G cl l r h).bind fun ds h => (cl f ds h).nx := by rw [ev] <;> rfl
@[simp] theorem evBlt (f : Blt) (l : Es) : ev G cl (.blt f l) r h = (evs G cl l r h).bind fun ds h => bltD f ds h := by rw [ev] <;> rfl
@[simp] theorem evApp (o e : E) : ev G cl (.app o e) r h = (ev G cl o r h).bind fun x h => if isLst x h = true then (ev G cl e r h).bind fun y h => appD x y h else .bad := by rw [ev] <;> rfl
@[simp] theorem evtNil : evt G cl .nil r h = .ok true h := by rw [evt] <;> rfl
@[simp] theorem evtCons (e : E) (l : Es) : evt G cl (.cons e l) r h = (ev G cl e r h).bind fun x h => match truD x h with | some true => evt G cl l r h | some false => .ok false h | none => .bad := by rw [evt] <;> rfl
theorem evComp (t : Tg) (k : Ck) (it cs : Es) (e : E) (N : List Str) (cap : List Nat) : ev G cl (.comp t k it cs e N cap) r h = (evs G cl it r h).bind fun xs h => (compL t (evt G cl cs) (ev G cl e) h.length k xs h (blockE N cap r) (h ++ [.lst []])).bind fun _ h' => .ok (.ref h.length) h' := by rw [ev] <;> rfl
@[simp] theorem evsNil : evs G cl .nil r h = .ok [] h := by rw [evs] <;> rfl
@[simp] theorem evsCons (e : E) (l : Es) : evs G cl (.cons e l) r h = (ev G cl e r h).bind fun d h => (evs G cl l r h).bind fun ds h => .ok (d :: ds) h := by rw [evs] <;> rfl
@[simp] theorem xsAsg (t : Tg) (e : E) : xs G cl W (.asg t e) r h = (ev G cl e r h).nx.bind fun x h => match setT t x r with | some r1 => .ok (.nx r1) h | none => .bad := by rw [xs] <;> rfl
@[simp] theorem xsAsc (i : Nat) (e : E) : xs G cl W (.asc i e) r h = (ev G cl e r h).nx.bind fun x h => .ok (.nx (r.set i (some x))) h := by rw [xs] <;> rfl
@[simp] theorem xsEx (e : E) : xs G cl W (.ex e) r h = (ev G cl e r h).nx.bind fun _ h => .ok (.nx r) h := by rw [xs] <;> rfl
@[simp] theorem xsRet (e : E) : xs G cl W (.ret e) r h = (ev G cl e r h).nx.bind fun x h => .ok (.rt x) h := by rw [xs] <;> rfl
@[simp] theorem xsIff (c : E) (a b : Ss) : xs G cl W (.iff c a b) r h = (ev G cl c r h).nx.bind fun x h => match truD x h with | some true => xss G cl W a r h | some false => xss G cl W b r h | none => .bad := by rw [xs] <;> rfl
@[simp] theorem xsFor1 (t : Tg) (e : E) (b : Ss) : xs G cl W (.forr t (.r1 e) b) r h = (ev G cl e r h).nx.bind fun x h => match x with | .int j => if okR j then forS t (xss G cl W b) (rngD 0 j) r h else .bad | _ => .bad := by rw [xs] <;> rfl
@[simp] theorem xsFor2 (t : Tg) (e e' : E) (b : Ss) : xs G cl W (.forr t (.r2 e e') b) r h = (ev G cl e r h).nx.bind fun x h => (ev G cl e' r h).nx.bind fun y h => match x, y with | .int i, .int j => if okR i /\ okR j then forS t (xss G cl W b) (rngD i j) r h else .bad | _, _ => .bad := by rw [xs] <;> rfl
@[simp] theorem xsForS (t : Tg) (e : E) (b : Ss) : xs G cl W (.forr t (.sq e) b) r h = (ev G cl e r h).nx.bind fun x h => forD W t (xss G cl W b) x r h := by rw [xs] <;> rfl
@[simp] theorem xsWhl (c : E) (b : Ss) : xs G cl W (.whl c b) r h = whileF (ev G cl c) (xss G cl W b) W r h := by rw [xs] <;> rfl
@[simp] theorem xsRais (c : Nat) (x : Str) : xs G cl W (.rais c x) r h = .exc c r h := by rw [xs] <;> rfl
@[simp] theorem xsAsgX (t : Tg) (f : Nat) (l : Es) : xs G cl W (.asgX t f l) r h = (evs G cl l r h).nx.bind fun ds h => ((cl f ds h).inn r).bind fun x h => match setT t x r with | some r1 => .ok (.nx r1) h | none => .bad := by rw [xs] <;> rfl
@[simp] theorem xsRetX (f : Nat) (l : Es) : xs G cl W (.retX f l) r h = (evs G cl l r h).nx.bind fun ds h => ((cl f ds h).inn r).bind fun x h => .ok (.rt x) h := by rw [xs] <;> rfl
@[simp] theorem xsExX (f : Nat) (l : Es) : xs G cl W (.exX f l) r h = (evs G cl l r h).nx.bind fun ds h => ((cl f ds h).inn r).bind fun _ h => .ok (.nx r) h := by rw [xs] <;> rfl
@[simp] theorem xsTry (b : Ss) (g : Nat) (j : Option Nat) (hs : List HS) : xs G cl W (.tryx b g j hs) r h = catchD G g j hs (xss G cl W b r h) := by rw [xs] <;> rfl
@[simp] theorem evMxd (mx : Bool) (a b : E) : ev G cl (.mxd mx a b) r h = (ev G cl a r h).bind fun x h => (ev G cl b r h).bind fun y h => bestD mx x y h := by rw [ev] <;> rfl
@[simp] theorem evIns (o i e : E) : ev G cl (.ins o i e) r h = (ev G cl o r h).bind fun x h => if isLst x h = true then (ev G cl i r h).bind fun y h => (ev G cl e r h).bind fun z h => insD x y z h else .bad := by rw [ev] <;> rfl
@[simp] theorem evLrg (a : E) : ev G cl (.lrg a) r h = (ev G cl a r h).bind fun x h => lrgD x h := by rw [ev] <;> rfl
@[simp] theorem evDisp (ks : List Str) (vs : Es) : ev G cl (.disp ks vs) r h = (evs G cl vs r (h ++ [.dct []])).bind fun ds h' => dispD ks ds h.length h' := by rw [ev] <;> rfl
@[simp] theorem xsPass : xs G cl W .pass r h = .ok (.nx r) h := by rw [xs] <;> rfl
@[simp] theorem xsBrk : xs G cl W .brk r h = .ok (.bk r) h := by rw [xs] <;> rfl
@[simp] theorem xsCont : xs G cl W .cont r h = .ok (.ct r) h := by rw [xs] <;> rfl
@[simp] theorem xsStx (o i e : E) : xs G cl W (.stx o i e) r h = (ev G cl e r h).nx.bind fun z h => (ev G cl o r h).nx.bind fun x h => (ev G cl i r h).nx.bind fun y h => (stxD x y z h).nx.bind fun _ h => .ok (.nx r) h := by rw [xs] <;> rfl
@[simp] theorem xssNil : xss G cl W .nil r h = .ok (.nx r) h := by rw [xss] <;> rfl
@[simp] theorem xssCons (s : S) (l : Ss) : xss G cl W (.cons s l) r h = (xs G cl W s r h).bind fun fl h => match fl with | .nx r2 => xss G cl W l r2 h | f => .ok f h := by rw [xss] <;> rfl
theorem xssNx {s : S} {l : Ss} {r r' : Ev} {h h' : Hh} {G : Gs} {cl : Cl} {W : Nat} (e : xs G cl W s r h = .ok (.nx r') h') : xss G cl W (.cons s l) r h = xss G cl W l r' h' := by rw [xssCons, e]; rfl
theorem xssRt {s : S} {l : Ss} {r : Ev} {d : D} {h h' : Hh} {G : Gs} {cl : Cl} {W : Nat} (e : xs G cl W s r h = .ok (.rt d) h') : xss G cl W (.cons s l) r h = .ok (.rt d) h' := by rw [xssCons, e]; rfl
@[simp] theorem setNm (i : Nat) (d : D) : setT (.nm i) d r = some (r.set i (some d)) := rfl
@[simp] theorem setTp (l : List Nat) (ds : List D) : setT (.tp l) (.tup ds) r = if ds.length = l.length then some (setAll l ds r) else none := rfl
@[simp] theorem setAll0 : setAll [] [] r = r := rfl
@[simp] theorem setAll1 (i : Nat) (is : List Nat) (d : D) (ds : List D) : setAll (i :: is) (d :: ds) r = setAll is ds (r.set i (some d)) := rfl
@[simp] theorem bAdd (i j : Int) : binD .add (.int i) (.int j) h = .ok (.int (i + j)) h := rfl
@[simp] theorem bSub (i j : Int) : binD .sub (.int i) (.int j) h = .ok (.int (i - j)) h := rfl
theorem bMulL {i j : Int} (a : -18446744073709551616 < i) (b : i < 18446744073709551616) : binD .mul (.int i) (.int j) h = .ok (.int (i * j)) h := by
  show (if _ then _ else _) = _
  rw [if_pos (.inl ⟨a, b⟩)]
theorem bMulR {i j : Int} (a : -18446744073709551616 < j) (b : j < 18446744073709551616) : binD .mul (.int i) (.int j) h = .ok (.int (i * j)) h := by
  show (if _ then _ else _) = _
  rw [if_pos (.inr ⟨a, b⟩)]
theorem bDiv {i j : Int} (a : 0 < j) (b : j < 1073741824) : binD .fdiv (.int i) (.int j) h = .ok (.int (i / j)) h := by
  show (if _ then _ else _) = _
  rw [if_pos ⟨a, b⟩]
theorem bMod {i j : Int} (a : 0 < j) : binD .mod (.int i) (.int j) h = .ok (.int (i % j)) h := by
  show (if _ then _ else _) = _
  rw [if_pos a]
@[simp] theorem bPow18 : binD .pow (.int 10) (.int 18) h = .ok (.int 1000000000000000000) h := rfl
@[simp] theorem bPow27 : binD .pow (.int 10) (.int 27) h = .ok (.int 1000000000000000000000000000) h := rfl
@[simp] theorem cLt (i j : Int) : cmpD .lt (.int i) (.int j) h = .ok (.bl (decide (i < j))) h := rfl
@[simp] theorem cLe (i j : Int) : cmpD .le (.int i) (.int j) h = .ok (.bl (decide (i <= j))) h := rfl
@[simp] theorem cGt (i j : Int) : cmpD .gt (.int i) (.int j) h = .ok (.bl (decide (j < i))) h := rfl
@[simp] theorem cGe (i j : Int) : cmpD .ge (.int i) (.int j) h = .ok (.bl (decide (j <= i))) h := rfl
@[simp] theorem cEqI (i j : Int) : cmpD .eq (.int i) (.int j) h = .ok (.bl (decide (i = j))) h := by rw [<- beq_eq_decide']; rfl
@[simp] theorem cNeI (i j : Int) : cmpD .ne (.int i) (.int j) h = .ok (.bl (!decide (i = j))) h := by rw [<- beq_eq_decide']; rfl
@[simp] theorem cEqB (i j : Bool) : cmpD .eq (.bl i) (.bl j) h = .ok (.bl (decide (i = j))) h := by rw [<- beq_eq_decide']; rfl
@[simp] theorem cNeB (i j : Bool) : cmpD .ne (.bl i) (.bl j) h = .ok (.bl (!decide (i = j))) h := by rw [<- beq_eq_decide']; rfl
@[simp] theorem cEqS (i j : Str) : cmpD .eq (.str i) (.str j) h = .ok (.bl (decide (i = j))) h := by rw [<- beq_eq_decide']; rfl
@[simp] theorem cNeS (i j : Str) : cmpD .ne (.str i) (.str j) h = .ok (.bl (!decide (i = j))) h := by rw [<- beq_eq_decide']; rfl
@[simp] theorem cNeT (a b : List D) : cmpD .ne (.tup a) (.tup b) h = (match eqL (eqD 19) a b with | some k => .ok (.bl (!k)) h | none => .bad) := rfl
@[simp] theorem cEqT (a b : List D) : cmpD .eq (.tup a) (.tup b) h = (match eqL (eqD 19) a b with | some k => .ok (.bl k) h | none => .bad) := rfl
@[simp] theorem eqL0 (f : D -> D -> Option Bool) : eqL f [] [] = some true := rfl
@[simp] theorem eqL1 (f : D -> D -> Option Bool) (x y : D) (xs ys : List D) : eqL f (x :: xs) (y :: ys) = (match f x y, eqL f xs ys with | some a, some b => some (a && b) | _, _ => none) := rfl
@[simp] theorem eqDI (n : Nat) (i j : Int) : eqD n (.int i) (.int j) = some (decide (i = j)) := by rw [<- beq_eq_decide']; cases n <;> rfl
@[simp] theorem eqDS (n : Nat) (i j : Str) : eqD n (.str i) (.str j) = some (decide (i = j)) := by rw [<- beq_eq_decide']; cases n <;> rfl
@[simp] theorem eqDT (n : Nat) (a b : List D) : eqD (n + 1) (.tup a) (.tup b) = eqL (eqD n) a b := rfl
@[simp] theorem isInt (i : Int) : isinL (.int i) (.ty "int") h = .ok (.bl true) h := rfl
@[simp] theorem isIntB (i : Int) : isinL (.int i) (.ty "bool") h = .ok (.bl false) h := rfl
@[simp] theorem isIntT (i : Int) : isinL (.int i) (.ty "tuple") h = .ok (.bl false) h := rfl
@[simp] theorem isIntL (i : Int) : isinL (.int i) (.ty "list") h = .ok (.bl false) h := rfl
@[simp] theorem isIntTL (i : Int) : isinL (.int i) (.tup [.ty "tuple", .ty "list"]) h = .ok (.bl false) h := rfl
@[simp] theorem isTupT (l : List D) : isinL (.tup l) (.ty "tuple") h = .ok (.bl true) h := rfl
@[simp] theorem isTupL (l : List D) : isinL (.tup l) (.ty "list") h = .ok (.bl false) h := rfl
@[simp] theorem isTupTL (l : List D) : isinL (.tup l) (.tup [.ty "tuple", .ty "list"]) h = .ok (.bl true) h := rfl
@[simp] theorem isTupB (l : List D) : isinL (.tup l) (.ty "bool") h = .ok (.bl false) h := rfl
@[simp] theorem isTupI (l : List D) : isinL (.tup l) (.ty "int") h = .ok (.bl false) h := rfl
@[simp] theorem nmInt : Ty.int.nm = "int" := rfl
@[simp] theorem nmBool : Ty.bool.nm = "bool" := rfl
@[simp] theorem nmStr : Ty.str.nm = "str" := rfl
@[simp] theorem nmTup : Ty.tuple.nm = "tuple" := rfl
@[simp] theorem nmLst : Ty.list.nm = "list" := rfl
@[simp] theorem cIsN (x : D) : cmpD .is x .non h = .ok (.bl (isNon x)) h := rfl
@[simp] theorem cIsNt (x : D) : cmpD .isnot x .non h = .ok (.bl (!isNon x)) h := rfl
@[simp] theorem tBl (b : Bool) : truD (.bl b) h = some b := rfl
@[simp] theorem tInt (i : Int) : truD (.int i) h = some (i != 0) := rfl
@[simp] theorem sTup (l : List D) : seqD (.tup l) h = some l := rfl
@[simp] theorem sRef (n : Nat) : seqD (.ref n) h = lstAt h n := rfl
@[simp] theorem iTup (l : List D) (i : Int) : ixD (.tup l) (.int i) h = (match atI l i with | some d => .ok d h | none => .bad) := rfl
theorem iRef {n : Nat} {l : List D} (i : Int) (e : lstAt h n = some l) : ixD (.ref n) (.int i) h = (match atI l i with | some d => .ok d h | none => .bad) := by
  have d0 : dctAt h (.ref n) = none := by
    show (match h[n]? with | some (.dct l) => some l | _ => none) = none
    unfold lstAt at e
    cases q : h[n]? with
    | none => rfl
    | some o =>
      cases o with
      | lst l' => rfl
      | ro l' => rfl
      | dct l' => rw [q] at e; cases e
      | dtt l' => rfl
      | ded => rfl
      | dtf l' => rfl
      | ins c f => rfl
  have d1 : dtfAt h (.ref n) = none := by
    show (match h[n]? with | some (.dtf l) => some l | _ => none) = none
    unfold lstAt at e
    cases q : h[n]? with
    | none => rfl
    | some o =>
      cases o with
      | dtf l' => rw [q] at e; cases e
      | _ => rfl
  have e2 : seqD (.ref n) h = some l := e
  have e3 : ixD (.ref n) (.int i) h = (match dctAt h (.ref n) with | some l => ixK l (.int i) h | none => match dtfAt h (.ref n) with | some l => ixF l (.int i) h | none => ixS (.ref n) (.int i) h) := rfl
  rw [e3, d0, d1]
  show ixS (.ref n) (.int i) h = _
  unfold ixS
  rw [e2] <;> rfl
def lenN (x : D) (h : Hh) : Rs D := match x with
  | .str z => if z.length <= sizeLine then .ok (.int z.length) h else .bad
  | x => match dtfAt h x with
    | some l => .ok (.int l.length) h
    | none => .bad
@[simp] theorem bLen (x : D) : bltD .len [x] h = (match seqD x h with | some l => .ok (.int l.length) h | none => lenN x h) := rfl
@[simp] theorem evAtt (o : E) (cn f : Str) : ev G cl (.att o cn f) r h = (ev G cl o r h).bind fun x h => attD cn x f h := by rw [ev] <;> rfl
@[simp] theorem evNew (cn : Str) (f : Nat) (l : Es) : ev G cl (.new cn f l) r h = (evs G cl l r h).bind fun ds h => (newD cn (cl f) ds h).nx := by rw [ev] <;> rfl
@[simp] theorem evMth (o : E) (cn m : Str) (f : Nat) (l : Es) : ev G cl (.mth o cn m f l) r h = (ev G cl o r h).bind fun x h => if mthOk x cn m h = true then (evs G cl l r h).bind fun ds h => (cl f (x :: ds) h).nx else .bad := by rw [ev] <;> rfl
@[simp] theorem evSlT (a b : E) : ev G cl (.slT a b) r h = (ev G cl a r h).bind fun x h => (ev G cl b r h).bind fun y h => slTD x y h := by rw [ev] <;> rfl
@[simp] theorem evSlA (a b : E) : ev G cl (.slA a b) r h = (ev G cl a r h).bind fun x h => (ev G cl b r h).bind fun y h => slAD x y h := by rw [ev] <;> rfl
@[simp] theorem evSlZ (a b : E) : ev G cl (.slZ a b) r h = (ev G cl a r h).bind fun x h => (ev G cl b r h).bind fun y h => slZD x y h := by rw [ev] <;> rfl
@[simp] theorem evChn (op op' : Cop) (a b c : E) : ev G cl (.chn op op' a b c) r h = (ev G cl a r h).bind fun x h => (ev G cl b r h).bind fun y h => (cmpD op x y h).bind fun p h => match p with
    | .bl true => (ev G cl c r h).bind fun z h => cmpD op' y z h
    | .bl false => .ok (.bl false) h
    | _ => .bad := by rw [ev] <;> rfl
@[simp] theorem evRev (o : E) : ev G cl (.rev o) r h = (ev G cl o r h).bind fun x h => revD x h := by rw [ev] <;> rfl
@[simp] theorem xsAsgL (l : List Nat) (e : E) : xs G cl W (.asgL l e) r h = (ev G cl e r h).nx.bind fun x h => match x with
    | .ref n => (match lstAt h n with
      | some ds => if ds.length = l.length then .ok (.nx (setAll l ds r)) h else .bad
      | none => .bad)
    | _ => .bad := by rw [xs] <;> rfl
@[simp] theorem xsExN (cn : Str) (f : Nat) (l : Es) : xs G cl W (.exN cn f l) r h = (evs G cl l r h).nx.bind fun ds h => ((newD cn (cl f) ds h).inn r).bind fun _ h => .ok (.nx r) h := by rw [xs] <;> rfl
@[simp] theorem xsSfl (o : E) (cn f : Str) (e : E) : xs G cl W (.sfl o cn f e) r h = (ev G cl e r h).nx.bind fun z h => (ev G cl o r h).nx.bind fun x h => (satD cn x z f h).nx.bind fun _ h => .ok (.nx r) h := by rw [xs] <;> rfl
@[simp] theorem setTn (i j k : Nat) (a b c : D) : setT (.tn i j k) (.tup [.tup [a, b], c]) r = some (((r.set i (some a)).set j (some b)).set k (some c)) := rfl
@[simp] theorem bIs (x y : D) : bltD .isinst [x, y] h = isinL x y h := rfl
@[simp] theorem bIntI (i : Int) : bltD .int [.int i] h = .ok (.int i) h := rfl
@[simp] theorem bIntB (i : Bool) : bltD .int [.bl i] h = .ok (.int (if i then 1 else 0)) h := rfl
@[simp] theorem bList (x : D) : bltD .list [x] h = (match seqD x h with | some l => .ok (.ref h.length) (h ++ [.lst l]) | none => .bad) := rfl
@[simp] theorem isLstR (n : Nat) : isLst (.ref n) h = (lstAt h n).isSome := rfl
@[simp] theorem appR (n : Nat) (y : D) : appD (.ref n) y h = (match h[n]? with | some (.lst l) => if l.length < 1000000 then .ok .non (h.set n (.lst (l ++ [y]))) else .bad | _ => .bad) := rfl
@[simp] theorem lstAt_last (l : List D) : lstAt (h ++ [.lst l]) h.length = some l := by simp [lstAt, lstOf]
theorem lstAt_app {n : Nat} {l : List D} (o : List O) (e : lstAt h n = some l) : lstAt (h ++ o) n = some l := by
  unfold lstAt at e ⊢
  cases q : h[n]? with
  | none => rw [q] at e; cases e
  | some u =>
    rw [List.getElem?_append_left (List.getElem?_eq_some_iff.mp q).1, q]
    rw [q] at e; exact e
@[simp] theorem get_last (o : O) : (h ++ [o])[h.length]? = some o := by simp
@[simp] theorem set_last (o o' : O) : (h ++ [o]).set h.length o' = h ++ [o'] := by simp
@[simp] theorem forS0 (t : Tg) (b : Ev -> Hh -> Rs Fl) : forS t b [] r h = .ok (.nx r) h := rfl
@[simp] theorem forS1 (t : Tg) (b : Ev -> Hh -> Rs Fl) (d : D) (ds : List D) : forS t b (d :: ds) r h = (match setT t d r with | none => .bad | some r1 => (b r1 h).bind fun fl h => match fl with | .nx r2 => forS t b ds r2 h | .ct r2 => forS t b ds r2 h | .bk r2 => .ok (.nx r2) h | .rt d => .ok (.rt d) h) := rfl
@[simp] theorem forDT (t : Tg) (b : Ev -> Hh -> Rs Fl) (l : List D) : forD W t b (.tup l) r h = forS t b l r h := rfl
@[simp] theorem forDR (t : Tg) (b : Ev -> Hh -> Rs Fl) (n : Nat) : forD W t b (.ref n) r h = forI t b n W 0 r h := rfl
@[simp] theorem endRt (d : D) : endD (.rt d) h = .ok d h := rfl
@[simp] theorem endNx (d : Ev) : endD (.nx d) h = .ok .non h := rfl
end
theorem call_eq {G : Gs} {T : Nat -> Option Fc} {W n f : Nat} {c : Fc} {ds : List D} {h : Hh} (hc : T f = some c) (hl : ds.length = c.np) : callD G T W (n + 1) f ds h = (xss G (callD G T W n) W c.body (ds.map some ++ List.replicate (c.ns - c.np) none) h).bind endD := by
  simp only [callD, hc]
  rw [if_pos hl]
end Ng
end
section
namespace Ng
open PySem L2
def dW1c : E := (.and (.cmp .gt (.var 3) (.int 0)) (.cmp .lt (.blt .len (.cons (.var 5) .nil)) (.var 2)))
def dW1b : Ss := (.cons (.ex (.app (.var 5) (.bin .mod (.var 3) (.int 1013)))) (.cons (.asg (.nm 3) (.bin .fdiv (.var 3) (.int 1013))) .nil))
def dW2c : E := (.cmp .lt (.blt .len (.cons (.var 5) .nil)) (.var 2))
def dW2b : Ss := (.cons (.asg (.nm 6) (.bin .add (.blt .len (.cons (.var 5) .nil)) (.int 1))) (.cons (.asg (.nm 4) (.bin .mod (.bin .add (.bin .add (.bin .mul (.var 4) (.int 48271)) (.bin .mul (.bin .mul (.var 6) (.var 6)) (.int 6133))) (.int 17)) (.int 2147483647))) (.cons (.ex (.app (.var 5) (.bin .mod (.bin .mod (.bin .mul (.bin .mod (.var 4) (.int 65521)) (.bin .add (.bin .mod (.bin .fdiv (.var 4) (.int 65521)) (.int 32749)) (.int 1))) (.int 1000003)) (.int 1013)))) .nil)))
def InR (row : List Int) : Prop := ∀ v ∈ row, 0 <= v /\ v < 1013
theorem InR.snoc {row : List Int} {v : Int} (h : InR row) (a : 0 <= v) (b : v < 1013) : InR (row ++ [v]) := fun u hu => by
  rcases List.mem_append.mp hu with hu | hu
  · exact h u hu
  · have : u = v := by simpa using hu
    subst this; exact ⟨a, b⟩
section
variable (G : Gs) (cl : Cl) (W : Nat) (h : Hh)
theorem dW1 (M : Nat) (hM : M <= 1000) (d0 d1 d4 : Option D) (d6 : Option D) : ∀ (k : Nat) (row : List Int) (cell : Int), row.length <= M -> InR row -> M - row.length < k ->
    ∃ row' cell', row'.length <= M /\ InR row' /\ whileF (ev G cl dW1c) (xss G cl W dW1b) k [d0, d1, some (.int M), some (.int cell), d4, some (.ref h.length), d6] (h ++ [.lst (row.map D.int)])
      = .ok (.nx [d0, d1, some (.int M), some (.int cell'), d4, some (.ref h.length), d6]) (h ++ [.lst (row'.map D.int)])
  | 0, _, _, _, _, hk => by omega
  | k + 1, row, cell, hl, hr, hk => by
    by_cases hc : 0 < cell
    · by_cases hm : row.length < M
      · have hm' : ((row.length : Int) < (M : Int)) := by omega
        have hb : InR (row ++ [cell % 1013]) := hr.snoc (Int.emod_nonneg _ (by decide)) (Int.emod_lt_of_pos _ (by decide))
        obtain ⟨row', cell', h1, h2, h3⟩ := dW1 M hM d0 d1 d4 d6 k (row ++ [cell % 1013]) (cell / 1013) (by simp; omega) hb (by simp; omega)
        refine ⟨row', cell', h1, h2, ?_⟩
        rw [<- h3]
        have hz : row.length < 1000000 := by omega
        simp (disch := omega) [whileF, dW1c, dW1b, hc, hm', hm, hz, bMod, bDiv]
      · refine ⟨row, cell, hl, hr, ?_⟩
        have hm' : ¬ ((row.length : Int) < (M : Int)) := by omega
        simp [whileF, dW1c, hc, hm', hm]
    · refine ⟨row, cell, hl, hr, ?_⟩
      simp [whileF, dW1c, hc]
def nxS (mark seed : Int) : Int := (seed * 48271 + mark * mark * 6133 + 17) % 2147483647
def nxV (s : Int) : Int := (s % 65521) * (s / 65521 % 32749 + 1) % 1000003 % 1013
theorem dT2 (d0 d1 d2 d3 d5 : Option D) (mark seed : Int) (hm : 0 <= mark) (hm2 : mark < 100000) (hh : Hh) :
    xs G cl W (.asg (.nm 4) (.bin .mod (.bin .add (.bin .add (.bin .mul (.var 4) (.int 48271)) (.bin .mul (.bin .mul (.var 6) (.var 6)) (.int 6133))) (.int 17)) (.int 2147483647))) [d0, d1, d2, d3, some (.int seed), d5, some (.int mark)] hh
      = .ok (.nx [d0, d1, d2, d3, some (.int (nxS mark seed)), d5, some (.int mark)]) hh := by
  have m1 : binD .mul (.int mark) (.int mark) hh = .ok (.int (mark * mark)) hh := bMulL hh (by omega) (by omega)
  have m2 : binD .mul (.int seed) (.int 48271) hh = .ok (.int (seed * 48271)) hh := bMulR hh (by omega) (by omega)
  have m3 : ∀ x : Int, binD .mul (.int x) (.int 6133) hh = .ok (.int (x * 6133)) hh := fun x => bMulR hh (by omega) (by omega)
  have q1 : ∀ x : Int, binD .mod (.int x) (.int 2147483647) hh = .ok (.int (x % 2147483647)) hh := fun x => bMod hh (by omega)
  have e1 : ∀ x : Int, (seed * 48271 + mark * mark * 6133 + 17) % 2147483647 = nxS mark seed := fun _ => rfl
  simp only [xsAsg, evBin, evVar, List.getElem?_cons_succ, ge0, evInt, bindOk, nxOk, m1, m2, m3, bAdd, q1, setNm, List.set_cons_succ, List.set_cons_zero, e1 0]
theorem dT3 (d0 d1 d2 d3 d6 : Option D) (row : List Int) (seed : Int) (hz : row.length < 1000000) :
    xs G cl W (.ex (.app (.var 5) (.bin .mod (.bin .mod (.bin .mul (.bin .mod (.var 4) (.int 65521)) (.bin .add (.bin .mod (.bin .fdiv (.var 4) (.int 65521)) (.int 32749)) (.int 1))) (.int 1000003)) (.int 1013)))) [d0, d1, d2, d3, some (.int seed), some (.ref h.length), d6] (h ++ [.lst (row.map D.int)])
      = .ok (.nx [d0, d1, d2, d3, some (.int seed), some (.ref h.length), d6]) (h ++ [.lst ((row ++ [nxV seed]).map D.int)]) := by
  have hk := Int.emod_nonneg seed (show (65521 : Int) ≠ 0 by decide)
  have hk2 := Int.emod_lt_of_pos seed (show (0 : Int) < 65521 by decide)
  have m4 : ∀ (x : Int) hh, binD .mul (.int (seed % 65521)) (.int x) hh = .ok (.int ((seed % 65521) * x)) hh := fun x hh => bMulL hh (by omega) (by omega)
  have q2 : ∀ (x : Int) hh, binD .mod (.int x) (.int 65521) hh = .ok (.int (x % 65521)) hh := fun x hh => bMod hh (by omega)
  have q3 : ∀ (x : Int) hh, binD .mod (.int x) (.int 32749) hh = .ok (.int (x % 32749)) hh := fun x hh => bMod hh (by omega)
  have q4 : ∀ (x : Int) hh, binD .mod (.int x) (.int 1000003) hh = .ok (.int (x % 1000003)) hh := fun x hh => bMod hh (by omega)
  have q5 : ∀ (x : Int) hh, binD .mod (.int x) (.int 1013) hh = .ok (.int (x % 1013)) hh := fun x hh => bMod hh (by omega)
  have q6 : ∀ (x : Int) hh, binD .fdiv (.int x) (.int 65521) hh = .ok (.int (x / 65521)) hh := fun x hh => bDiv hh (by omega) (by omega)
  have e2 : ∀ s : Int, (s % 65521) * (s / 65521 % 32749 + 1) % 1000003 % 1013 = nxV s := fun _ => rfl
  simp only [xsEx, evBin, evVar, List.getElem?_cons_succ, ge0, evInt, bindOk, nxOk, evApp, isLstR, lstAt_last, Option.isSome_some, if_true, bAdd, q2, q3, q4, q5, q6, m4, e2, appR, get_last, List.length_map, hz, if_pos, set_last, List.map_append, List.map_cons, List.map_nil]
theorem dT1 (d0 d1 d2 d3 d4 d6 : Option D) (row : List Int) :
    xs G cl W (.asg (.nm 6) (.bin .add (.blt .len (.cons (.var 5) .nil)) (.int 1))) [d0, d1, d2, d3, d4, some (.ref h.length), d6] (h ++ [.lst (row.map D.int)])
      = .ok (.nx [d0, d1, d2, d3, d4, some (.ref h.length), some (.int ((row.length : Int) + 1))]) (h ++ [.lst (row.map D.int)]) := by
  simp only [xsAsg, evBin, evBlt, evsCons, evsNil, evVar, List.getElem?_cons_succ, ge0, evInt, bindOk, nxOk, bLen, sRef, lstAt_last, List.length_map, bAdd, setNm, List.set_cons_succ, List.set_cons_zero]
theorem dW2turn (d0 d1 d2 d3 d6 : Option D) (row : List Int) (seed : Int) (hz : row.length < 1000) :
    xss G cl W dW2b [d0, d1, d2, d3, some (.int seed), some (.ref h.length), d6] (h ++ [.lst (row.map D.int)])
      = .ok (.nx [d0, d1, d2, d3, some (.int (nxS ((row.length : Int) + 1) seed)), some (.ref h.length), some (.int ((row.length : Int) + 1))]) (h ++ [.lst ((row ++ [nxV (nxS ((row.length : Int) + 1) seed)]).map D.int)]) := by
  rw [dW2b, xssNx (dT1 G cl W h d0 d1 d2 d3 _ d6 row), xssNx (dT2 G cl W d0 d1 d2 d3 _ _ seed (by omega) (by omega) _), xssNx (dT3 G cl W h _ _ _ _ _ row _ (by omega)), xssNil]
theorem dW2 (M : Nat) (hM : M <= 1000) (d0 d1 d3 : Option D) : ∀ (k : Nat) (row : List Int) (seed : Int) (d6 : Option D), row.length <= M -> InR row -> M - row.length < k ->
    ∃ row' seed' d6', row'.length = M /\ InR row' /\ whileF (ev G cl dW2c) (xss G cl W dW2b) k [d0, d1, some (.int M), d3, some (.int seed), some (.ref h.length), d6] (h ++ [.lst (row.map D.int)])
      = .ok (.nx [d0, d1, some (.int M), d3, some (.int seed'), some (.ref h.length), d6']) (h ++ [.lst (row'.map D.int)]) := by
  intro k
  induction k with
  | zero => intro row seed d6 _ _ hk; omega
  | succ k ih =>
    intro row seed d6 hl hr hk
    by_cases hm : row.length < M
    · have hm' : ((row.length : Int) < (M : Int)) := by omega
      obtain ⟨row', seed', d6', h1, h2, h3⟩ := ih (row ++ [nxV (nxS ((row.length : Int) + 1) seed)]) (nxS ((row.length : Int) + 1) seed) (some (.int ((row.length : Int) + 1))) (by simp; omega)
        (hr.snoc (Int.emod_nonneg _ (by decide)) (Int.emod_lt_of_pos _ (by decide))) (by simp; omega)
      refine ⟨row', seed', d6', h1, h2, ?_⟩
      rw [<- h3]
      have hc : ev G cl dW2c [d0, d1, some (.int M), d3, some (.int seed), some (.ref h.length), d6] (h ++ [.lst (row.map D.int)]) = .ok (.bl true) (h ++ [.lst (row.map D.int)]) := by simp [dW2c, hm]
      simp only [whileF, hc, bindOk, nxOk, tBl, dW2turn G cl W h d0 d1 _ d3 d6 row seed (by omega)]
    · refine ⟨row, seed, d6, by omega, hr, ?_⟩
      have hc : ev G cl dW2c [d0, d1, some (.int M), d3, some (.int seed), some (.ref h.length), d6] (h ++ [.lst (row.map D.int)]) = .ok (.bl false) (h ++ [.lst (row.map D.int)]) := by simp [dW2c, hm]
      simp only [whileF, hc, bindOk, nxOk, tBl]
def dIf : S := .iff (.cmp .lt (.var 1) (.blt .len (.cons (.var 0) .nil))) (.cons (.asg (.nm 3) (.ix (.var 0) (.var 1))) .nil) (.cons (.iff (.cmp .gt (.blt .len (.cons (.var 0) .nil)) (.int 0)) (.cons (.asg (.nm 3) (.bin .add (.bin .add (.bin .mod (.ix (.var 0) (.bin .mod (.var 1) (.blt .len (.cons (.var 0) .nil)))) (.int 999983)) (.bin .mul (.bin .mul (.var 1) (.var 1)) (.int 97))) (.int 1))) .nil) .nil) .nil)
def drawsB : Ss := (.cons (.asg (.nm 3) (.bin .add (.bin .mul (.int 7) (.var 1)) (.int 1))) (.cons dIf (.cons (.asg (.nm 4) (.bin .add (.bin .add (.bin .mod (.var 3) (.int 999983)) (.bin .mul (.int 31) (.var 1))) (.int 5))) (.cons (.asg (.nm 5) (.lst .nil)) (.cons (.iff (.cmp .ge (.var 3) (.bin .pow (.int 10) (.int 18))) (.cons (.whl dW1c dW1b) .nil) .nil) (.cons (.whl dW2c dW2b) (.cons (.ret (.var 5)) .nil)))))))
theorem atI_ok {l : List Int} {i : Int} (a : 0 <= i) (b : i < l.length) : ∃ v, atI (l.map D.int) i = some (.int v) := by
  have hb : i.toNat < l.length := by omega
  refine ⟨l[i.toNat], ?_⟩
  have := atI_nat (xs := l.map D.int) (j := i.toNat) (v := .int l[i.toNat]) (by rw [List.getElem?_map, List.getElem?_eq_getElem hb]; rfl)
  rwa [show ((i.toNat : Nat) : Int) = i by omega] at this
theorem dIf_ok (s : Nat) (ns : List Int) (at' c0 : Int) (d2 d4 d5 d6 : Option D) (h0 : 0 <= at') (h1 : at' < 100000) (hs : lstAt h s = some (ns.map D.int)) :
    ∃ c : Int, xs G cl W dIf [some (.ref s), some (.int at'), d2, some (.int c0), d4, d5, d6] h = .ok (.nx [some (.ref s), some (.int at'), d2, some (.int c), d4, d5, d6]) h := by
  by_cases hl : at' < (ns.length : Int)
  · obtain ⟨v, hv⟩ := atI_ok h0 hl
    exact ⟨v, by simp [dIf, hs, hl, hv, iRef h _ hs]⟩
  · by_cases hp : (0 : Int) < ns.length
    · obtain ⟨v, hv⟩ := atI_ok (l := ns) (i := at' % ns.length) (Int.emod_nonneg _ (by omega)) (Int.emod_lt_of_pos _ hp)
      have m0 : ∀ x : Int, binD .mod (.int x) (.int ns.length) h = .ok (.int (x % ns.length)) h := fun x => bMod h hp
      have m1 : binD .mul (.int at') (.int at') h = .ok (.int (at' * at')) h := bMulL h (by omega) (by omega)
      have m2 : ∀ x : Int, binD .mul (.int x) (.int 97) h = .ok (.int (x * 97)) h := fun x => bMulR h (by omega) (by omega)
      have m3 : ∀ x : Int, binD .mod (.int x) (.int 999983) h = .ok (.int (x % 999983)) h := fun x => bMod h (by omega)
      refine ⟨v % 999983 + at' * at' * 97 + 1, ?_⟩
      simp only [dIf, xsIff, xssCons, xssNil, xsAsg, evCmp, evVar, List.getElem?_cons_succ, ge0, evBlt, evsCons, evsNil, bindOk, nxOk, bLen, sRef, hs, List.length_map, cLt, tBl, hl, decide_false, evInt, cGt, hp, decide_true, evBin, evIx, m0, iRef h _ hs, hv, m1, m2, m3, bAdd, setNm, List.set_cons_succ, List.set_cons_zero]
    · have hp2 : ¬ (0 < ns.length) := by omega
      exact ⟨c0, by simp [dIf, hs, hl, hp, hp2]⟩
theorem draws_ok (s : Nat) (ns : List Int) (at' : Int) (M : Nat) (hM : M <= 1000) (h0 : 0 <= at') (h1 : at' < 100000) (hs : lstAt h s = some (ns.map D.int)) (hW : 2000 <= W) :
    ∃ row : List Int, row.length = M /\ InR row /\ xss G cl W drawsB [some (.ref s), some (.int at'), some (.int M), none, none, none, none] h = .ok (.rt (.ref h.length)) (h ++ [.lst (row.map D.int)]) := by
  have a1 : xs G cl W (.asg (.nm 3) (.bin .add (.bin .mul (.int 7) (.var 1)) (.int 1))) [some (.ref s), some (.int at'), some (.int M), none, none, none, none] h = .ok (.nx [some (.ref s), some (.int at'), some (.int M), some (.int (7 * at' + 1)), none, none, none]) h := by
    have m1 : binD .mul (.int 7) (.int at') h = .ok (.int (7 * at')) h := bMulL h (by omega) (by omega)
    simp only [xsAsg, evBin, evVar, List.getElem?_cons_succ, ge0, evInt, bindOk, nxOk, m1, bAdd, setNm, List.set_cons_succ, List.set_cons_zero]
  obtain ⟨c, a2⟩ := dIf_ok G cl W h s ns at' (7 * at' + 1) (some (.int M)) none none none h0 h1 hs
  have a3 : xs G cl W (.asg (.nm 4) (.bin .add (.bin .add (.bin .mod (.var 3) (.int 999983)) (.bin .mul (.int 31) (.var 1))) (.int 5))) [some (.ref s), some (.int at'), some (.int M), some (.int c), none, none, none] h = .ok (.nx [some (.ref s), some (.int at'), some (.int M), some (.int c), some (.int (c % 999983 + 31 * at' + 5)), none, none]) h := by
    have m1 : binD .mul (.int 31) (.int at') h = .ok (.int (31 * at')) h := bMulL h (by omega) (by omega)
    have m3 : ∀ x : Int, binD .mod (.int x) (.int 999983) h = .ok (.int (x % 999983)) h := fun x => bMod h (by omega)
    simp only [xsAsg, evBin, evVar, List.getElem?_cons_succ, ge0, evInt, bindOk, nxOk, m1, m3, bAdd, setNm, List.set_cons_succ, List.set_cons_zero]
  have a4 : ∀ x : Int, xs G cl W (.asg (.nm 5) (.lst .nil)) [some (.ref s), some (.int at'), some (.int M), some (.int c), some (.int x), none, none] h = .ok (.nx [some (.ref s), some (.int at'), some (.int M), some (.int c), some (.int x), some (.ref h.length), none]) (h ++ [.lst (([] : List Int).map D.int)]) := fun x => by
    simp [xsAsg]
  have a5 : ∀ x : Int, ∃ row c', row.length <= M /\ InR row /\ xs G cl W (.iff (.cmp .ge (.var 3) (.bin .pow (.int 10) (.int 18))) (.cons (.whl dW1c dW1b) .nil) .nil) [some (.ref s), some (.int at'), some (.int M), some (.int c), some (.int x), some (.ref h.length), none] (h ++ [.lst (([] : List Int).map D.int)])
      = .ok (.nx [some (.ref s), some (.int at'), some (.int M), some (.int c'), some (.int x), some (.ref h.length), none]) (h ++ [.lst (row.map D.int)]) := fun x => by
    by_cases hc : (1000000000000000000 : Int) <= c
    · obtain ⟨row, c', r1, r2, r3⟩ := dW1 G cl W h M hM (some (.ref s)) (some (.int at')) (some (.int x)) none W [] c (Nat.zero_le _) (fun _ z => by cases z) (by simp; omega)
      refine ⟨row, c', r1, r2, ?_⟩
      simp only [xsIff, evCmp, evVar, List.getElem?_cons_succ, ge0, evBin, evInt, bindOk, nxOk, bPow18, cGe, hc, decide_true, tBl, xssCons, xsWhl, r3, xssNil]
    · refine ⟨[], c, Nat.zero_le _, (fun _ z => by cases z), ?_⟩
      simp only [xsIff, evCmp, evVar, List.getElem?_cons_succ, ge0, evBin, evInt, bindOk, nxOk, bPow18, cGe, hc, decide_false, tBl, xssNil]
  obtain ⟨row1, c', r1, r2, a5⟩ := a5 (c % 999983 + 31 * at' + 5)
  obtain ⟨row, sd, d6, q1, q2, a6⟩ := dW2 G cl W h M hM (some (.ref s)) (some (.int at')) (some (.int c')) W row1 (c % 999983 + 31 * at' + 5) none r1 r2 (by omega)
  refine ⟨row, q1, q2, ?_⟩
  rw [drawsB, xssNx a1, xssNx a2, xssNx a3, xssNx (a4 _), xssNx a5, xssNx (show xs G cl W (.whl dW2c dW2b) _ _ = _ from (xsWhl G cl W _ _ dW2c dW2b).trans a6)]
  exact xssRt (by simp only [xsRet, evVar, List.getElem?_cons_succ, ge0, bindOk, nxOk])
end
end Ng
end
section
namespace Ng
open PySem L2
theorem forS_id {t : Tg} {body : Ev -> Hh -> Rs Fl} (F : Ev -> Prop) (h : Hh) : ∀ (l : List D), (∀ d ∈ l, ∀ r, F r -> ∃ r1 r2, setT t d r = some r1 /\ body r1 h = .ok (.nx r2) h /\ F r2) -> ∀ r, F r -> ∃ r', forS t body l r h = .ok (.nx r') h /\ F r'
  | [], _, r, hF => ⟨r, by simp, hF⟩
  | d :: l, hb, r, hF => by
    obtain ⟨r1, r2, e1, e2, f2⟩ := hb d List.mem_cons_self r hF
    obtain ⟨r', e3, f3⟩ := forS_id F h l (fun d hd => hb d (List.mem_cons_of_mem _ hd)) r2 f2
    refine ⟨r', ?_, f3⟩
    rw [<- e3, forS1, e1]
    show (body r1 h).bind _ = _
    rw [e2]
    rfl
def tx (t x y : Int) : Int := if t = 0 then x else if t = 1 then -y else if t = 2 then -x else if t = 3 then y else if t = 4 then -x else if t = 5 then -y else if t = 6 then x else y
def ty (t x y : Int) : Int := if t = 0 then y else if t = 1 then x else if t = 2 then -y else if t = 3 then -x else if t = 4 then y else if t = 5 then -x else if t = 6 then -y else x
section
variable (h : Hh)
@[simp] theorem isStrTL (i : Str) : isinL (.str i) (.tup [.ty "tuple", .ty "list"]) h = .ok (.bl false) h := rfl
@[simp] theorem isBlTL (i : Bool) : isinL (.bl i) (.tup [.ty "tuple", .ty "list"]) h = .ok (.bl false) h := rfl
@[simp] theorem isNonTL : isinL .non (.tup [.ty "tuple", .ty "list"]) h = .ok (.bl false) h := rfl
@[simp] theorem isStrB (i : Str) : isinL (.str i) (.ty "bool") h = .ok (.bl false) h := rfl
@[simp] theorem isStrI (i : Str) : isinL (.str i) (.ty "int") h = .ok (.bl false) h := rfl
@[simp] theorem isStrS (i : Str) : isinL (.str i) (.ty "str") h = .ok (.bl true) h := rfl
@[simp] theorem isBlB (i : Bool) : isinL (.bl i) (.ty "bool") h = .ok (.bl true) h := rfl
@[simp] theorem inN : isNon .non = true := rfl
@[simp] theorem inI (i : Int) : isNon (.int i) = false := rfl
@[simp] theorem inS (i : Str) : isNon (.str i) = false := rfl
@[simp] theorem inB (i : Bool) : isNon (.bl i) = false := rfl
@[simp] theorem inTu (i : List D) : isNon (.tup i) = false := rfl
@[simp] theorem inR (i : Nat) : isNon (.ref i) = false := rfl
end
def pd : Nat -> D -> Bool
  | _, .int _ => true
  | _, .str _ => true
  | _, .bl _ => true
  | _, .non => true
  | k + 1, .tup l => decide (l.length <= 1000) && l.all (pd k)
  | _, _ => false
theorem rngD_mem {j : Nat} {d : D} (hd : d ∈ rngD 0 j) : ∃ k : Nat, k < j /\ d = .int k := by
  unfold rngD at hd
  obtain ⟨k, hk, rfl⟩ := List.mem_map.mp hd
  exact ⟨k, by simpa using hk, by simp⟩
end Ng
end
section
namespace Ng
open PySem L2
theorem get_mid (h0 g : Hh) (o : O) : (h0 ++ o :: g)[h0.length]? = some o := by simp
theorem set_mid (h0 g : Hh) (o o' : O) : (h0 ++ o :: g).set h0.length o' = h0 ++ o' :: g := by simp
theorem app_mid (h0 g : Hh) (l : List D) (y : D) (hl : l.length < 1000000) : appD (.ref h0.length) y (h0 ++ .lst l :: g) = .ok .non (h0 ++ .lst (l ++ [y]) :: g) := by
  rw [appR, get_mid]
  show (if _ then _ else _) = _
  rw [if_pos hl, set_mid]
theorem lstAt_mid (h0 g : Hh) (l : List D) : lstAt (h0 ++ .lst l :: g) h0.length = some l := by
  unfold lstAt; rw [get_mid]; rfl
theorem forS_inv {t : Tg} {body : Ev -> Hh -> Rs Fl} (I : Nat -> Ev -> Hh -> Prop) : ∀ (l : List D) (i : Nat), (∀ j d, l[j]? = some d -> ∀ r h, I (i + j) r h -> ∃ r1 r2 h2, setT t d r = some r1 /\ body r1 h = .ok (.nx r2) h2 /\ I (i + j + 1) r2 h2) ->
    ∀ r h, I i r h -> ∃ r' h', forS t body l r h = .ok (.nx r') h' /\ I (i + l.length) r' h'
  | [], i, _, r, h, hI => ⟨r, h, by simp, hI⟩
  | d :: l, i, hb, r, h, hI => by
    obtain ⟨r1, r2, h2, e1, e2, i2⟩ := hb 0 d rfl r h hI
    obtain ⟨r', h', e3, i3⟩ := forS_inv I l (i + 1) (fun j d hd r h hI => by
      have := hb (j + 1) d (by simpa using hd) r h (by rw [show i + (j + 1) = i + 1 + j by omega]; exact hI)
      rw [show i + (j + 1) = i + 1 + j by omega] at this
      exact this) r2 h2 i2
    refine ⟨r', h', ?_, by rw [List.length_cons, show i + (l.length + 1) = i + 1 + l.length by omega]; exact i3⟩
    rw [<- e3, forS1, e1]
    show (body r1 h).bind _ = _
    rw [e2]
    rfl
theorem rngD_get (j k : Nat) (hk : k < j) : (rngD 0 j)[k]? = some (D.int k) := by
  unfold rngD
  rw [List.getElem?_map, List.getElem?_range (by simpa using hk)]
  simp
theorem rngD_len (j : Nat) : (rngD 0 j).length = j := by unfold rngD; simp
theorem evComp_r1 {G : Gs} {cl : Cl} {t : Tg} {it cs : Es} {e : E} {N : List Str} {cap : List Nat} {r : Ev} {h h1 h' : Hh} {j : Int} (hi : evs G cl it r h = .ok [.int j] h1) (hj : okR j)
    (hc : compS t (evt G cl cs) (ev G cl e) h1.length (rngD 0 j) (blockE N cap r) (h1 ++ [O.lst []]) = .ok () h') : ev G cl (.comp t .r1 it cs e N cap) r h = .ok (.ref h1.length) h' := by
  rw [evComp, hi]
  show (compL t _ _ _ .r1 [.int j] h1 _ _).bind _ = _
  have e' : compL t (evt G cl cs) (ev G cl e) h1.length .r1 [.int j] h1 (blockE N cap r) (h1 ++ [O.lst []]) = .ok () h' := by
    show (if okR j then _ else _) = _
    rw [if_pos hj]; exact hc
  rw [e']; rfl
theorem evComp_tup {G : Gs} {cl : Cl} {t : Tg} {it cs : Es} {e : E} {N : List Str} {cap : List Nat} {r : Ev} {h h1 h' : Hh} {l : List D} (hi : evs G cl it r h = .ok [.tup l] h1)
    (hc : compS t (evt G cl cs) (ev G cl e) h1.length l (blockE N cap r) (h1 ++ [O.lst []]) = .ok () h') : ev G cl (.comp t .sq it cs e N cap) r h = .ok (.ref h1.length) h' := by
  rw [evComp, hi]
  show (compS t _ _ _ l _ _).bind _ = _
  rw [hc]; rfl
theorem evComp_lst {G : Gs} {cl : Cl} {t : Tg} {it cs : Es} {e : E} {N : List Str} {cap : List Nat} {r : Ev} {h h1 h' : Hh} {n : Nat} {l : List D} (hi : evs G cl it r h = .ok [.ref n] h1) (hl : lstAt h1 n = some l)
    (hc : compI t (evt G cl cs) (ev G cl e) h1.length n (l.length + 1) 0 (blockE N cap r) (h1 ++ [O.lst []]) = .ok () h') : ev G cl (.comp t .sq it cs e N cap) r h = .ok (.ref h1.length) h' := by
  rw [evComp, hi]
  show (compL t _ _ _ .sq [.ref n] h1 _ _).bind _ = _
  have e' : compL t (evt G cl cs) (ev G cl e) h1.length .sq [.ref n] h1 (blockE N cap r) (h1 ++ [O.lst []]) = .ok () h' := by
    show (match lstAt h1 n with | some l => compI t (evt G cl cs) (ev G cl e) h1.length n (l.length + 1) 0 (blockE N cap r) (h1 ++ [O.lst []]) | none => .bad) = _
    rw [hl]; exact hc
  rw [e']; rfl
theorem xsFor_r1 {G : Gs} {cl : Cl} {W : Nat} {t : Tg} {e : E} {b : Ss} {r : Ev} {h h1 h' : Hh} {j : Int} {fl : Fl} (hi : ev G cl e r h = .ok (.int j) h1) (hj : okR j) (hf : forS t (xss G cl W b) (rngD 0 j) r h1 = .ok fl h') : xs G cl W (.forr t (.r1 e) b) r h = .ok fl h' := by
  rw [xsFor1, hi]
  show (if okR j then _ else _) = _
  rw [if_pos hj]; exact hf
theorem okR_nat {n : Nat} (h : n <= 1000000) : okR (n : Int) := by unfold okR; omega
end Ng
end
section
namespace Ng
open PySem L2
def tb (t : Int) : Int := if 4 <= t then t else (-t) % 4
abbrev M3 := Int × Int × Int
def mo (m : M3) : D := .tup [.int m.1, .int m.2.1, .int m.2.2]
def bk (m : M3) : M3 := (tb m.1, -tx (tb m.1) m.2.1 m.2.2, -ty (tb m.1) m.2.1 m.2.2)
def pl (x : Int × Int) : D := .tup [.int x.1, .int x.2]
end Ng
end
section
namespace Ng
open PySem L2
theorem lstAt_mid2 {h0 : Hh} {n : Nat} {l : List D} (g : Hh) (e : lstAt h0 n = some l) : lstAt (h0 ++ g) n = some l := lstAt_app h0 g e
structure It {α : Type} (φ : α -> D) (t : Tg) (cs : Ev -> Hh -> Rs Bool) (f : Ev -> Hh -> Rs D) (h0 : Hh) (F : Ev -> Prop) (p : α -> Bool) (g : α -> D) (x : α) : Prop where
  it : ∀ r ys gb, F r -> ∃ r1 g1, setT t (φ x) r = some r1 /\ cs r1 (h0 ++ .lst ys :: gb) = .ok (p x) (h0 ++ .lst ys :: (gb ++ g1)) /\ F r1 /\ (p x = true -> ∃ g2, f r1 (h0 ++ .lst ys :: (gb ++ g1)) = .ok (g x) (h0 ++ .lst ys :: (gb ++ g1 ++ g2)))
theorem compS_gen {α : Type} {φ : α -> D} {t : Tg} {cs : Ev -> Hh -> Rs Bool} {f : Ev -> Hh -> Rs D} {h0 : Hh} {F : Ev -> Prop} {p : α -> Bool} {g : α -> D} : ∀ (l : List α), (∀ d ∈ l, It φ t cs f h0 F p g d) ->
    ∀ r ys gb, F r -> ys.length + l.length < 1000000 -> ∃ gb', compS t cs f h0.length (l.map φ) r (h0 ++ .lst ys :: gb) = .ok () (h0 ++ .lst (ys ++ (l.filter p).map g) :: gb')
  | [], _, r, ys, gb, _, _ => ⟨gb, by simp [compS]⟩
  | d :: l, hb, r, ys, gb, hF, hl => by
    obtain ⟨r1, g1, e1, e2, f1, e3⟩ := (hb d List.mem_cons_self).it r ys gb hF
    by_cases hp : p d = true
    · obtain ⟨g2, e3⟩ := e3 hp
      obtain ⟨gb', e4⟩ := compS_gen l (fun d hd => hb d (List.mem_cons_of_mem _ hd)) r1 (ys ++ [g d]) (gb ++ g1 ++ g2) f1 (by simp at hl ⊢; omega)
      refine ⟨gb', ?_⟩
      rw [hp] at e2
      simp only [List.map_cons, compS, e1, e2, bindOk, if_true, e3, app_mid _ _ _ _ (show ys.length < 1000000 by simp at hl; omega), e4, List.filter_cons, hp]
      simp
    · obtain ⟨gb', e4⟩ := compS_gen l (fun d hd => hb d (List.mem_cons_of_mem _ hd)) r1 ys (gb ++ g1) f1 (by simp at hl ⊢; omega)
      refine ⟨gb', ?_⟩
      have hp' : p d = false := by simpa using hp
      rw [hp'] at e2
      simp only [List.map_cons, compS, e1, e2, bindOk, if_false, Bool.false_eq_true, e4, List.filter_cons, hp']
theorem compI_gen {α : Type} {φ : α -> D} {t : Tg} {cs : Ev -> Hh -> Rs Bool} {f : Ev -> Hh -> Rs D} {h0 : Hh} {F : Ev -> Prop} {p : α -> Bool} {g : α -> D} {n : Nat} {l : List α} (hl : lstAt h0 n = some (l.map φ)) (hb : ∀ d ∈ l, It φ t cs f h0 F p g d) (hm : ∀ z : Nat, z <= 2 * l.length -> z < 1000000) :
    ∀ k i r ys gb, F r -> i <= l.length -> l.length - i < k -> ys.length <= i -> ∃ gb', compI t cs f h0.length n k i r (h0 ++ .lst ys :: gb) = .ok () (h0 ++ .lst (ys ++ ((l.drop i).filter p).map g) :: gb') := by
  intro k
  induction k with
  | zero => intro i r ys gb _ _ hk; omega
  | succ k ih =>
    intro i r ys gb hF hi hk hy
    have e0 : lstAt (h0 ++ .lst ys :: gb) n = some (l.map φ) := lstAt_mid2 _ hl
    by_cases hlt : i < l.length
    · have ed : (l.map φ)[i]? = some (φ l[i]) := by rw [List.getElem?_map, List.getElem?_eq_getElem hlt]; rfl
      have hdr : l.drop i = l[i] :: l.drop (i + 1) := List.drop_eq_getElem_cons hlt
      obtain ⟨r1, g1, e1, e2, f1, e3⟩ := (hb l[i] (List.getElem_mem hlt)).it r ys gb hF
      by_cases hp : p l[i] = true
      · obtain ⟨g2, e3⟩ := e3 hp
        obtain ⟨gb', e4⟩ := ih (i + 1) r1 (ys ++ [g l[i]]) (gb ++ g1 ++ g2) f1 hlt (by omega) (by simp; omega)
        refine ⟨gb', ?_⟩
        rw [hp] at e2
        simp only [compI, e0, ed, e1, e2, bindOk, if_true, e3, app_mid _ _ _ _ (hm ys.length (by omega)), e4, hdr, List.filter_cons, hp]
        simp
      · obtain ⟨gb', e4⟩ := ih (i + 1) r1 ys (gb ++ g1) f1 hlt (by omega) (by omega)
        refine ⟨gb', ?_⟩
        have hp' : p l[i] = false := by simpa using hp
        rw [hp'] at e2
        simp only [compI, e0, ed, e1, e2, bindOk, if_false, Bool.false_eq_true, e4, hdr, List.filter_cons, hp']
    · have ed : (l.map φ)[i]? = none := List.getElem?_eq_none_iff.mpr (by simp; omega)
      refine ⟨gb, ?_⟩
      simp only [compI, e0, ed, List.drop_eq_nil_of_le (show l.length <= i by omega), List.filter_nil, List.map_nil, List.append_nil]
section
variable {α : Type} {φ : α -> D} {G : Gs} {cl : Cl} {t : Tg} {it cs : Es} {e : E} {N : List Str} {cap : List Nat} {r : Ev} {h h1 : Hh}
theorem evC_lst {n : Nat} {l : List α} (φ : α -> D) (F : Ev -> Prop) (p : α -> Bool) (g : α -> D) (hi : evs G cl it r h = .ok [.ref n] h1) (hl : lstAt h1 n = some (l.map φ)) (hm : l.length <= 1000) (hF : F (blockE N cap r)) (hb : ∀ d ∈ l, It φ t (evt G cl cs) (ev G cl e) h1 F p g d) :
    ∃ gb, ev G cl (.comp t .sq it cs e N cap) r h = .ok (.ref h1.length) (h1 ++ .lst ((l.filter p).map g) :: gb) := by
  obtain ⟨gb, e1⟩ := compI_gen hl hb (fun z hz => by omega) ((l.map φ).length + 1) 0 (blockE N cap r) [] [] hF (Nat.zero_le _) (by simp) (Nat.le_refl _)
  exact ⟨gb, evComp_lst hi hl e1⟩
theorem evC_map {n : Nat} {l : List α} (φ : α -> D) (F : Ev -> Prop) (g : α -> D) (hi : evs G cl it r h = .ok [.ref n] h1) (hl : lstAt h1 n = some (l.map φ)) (hm : l.length <= 1000) (hF : F (blockE N cap r))
    (hb : ∀ d ∈ l, ∀ r h, F r -> ∃ r1, setT t (φ d) r = some r1 /\ F r1 /\ ev G cl e r1 h = .ok (g d) h) :
    ∃ gb, ev G cl (.comp t .sq it .nil e N cap) r h = .ok (.ref h1.length) (h1 ++ .lst (l.map g) :: gb) := by
  obtain ⟨gb, q⟩ := evC_lst (cs := .nil) (e := e) (t := t) (N := N) (cap := cap) φ F (fun _ => true) g hi hl hm hF fun d hd => ⟨fun r ys gb hr => by
    obtain ⟨r1, e1, f1, e2⟩ := hb d hd r (h1 ++ .lst ys :: gb) hr
    exact ⟨r1, [], e1, by rw [evtNil, List.append_nil], f1, fun _ => ⟨[], by rw [List.append_nil, List.append_nil]; exact e2⟩⟩⟩
  rw [List.filter_eq_self.mpr (fun _ _ => rfl)] at q
  exact ⟨gb, q⟩
theorem evC_r1 {j : Nat} (F : Ev -> Prop) (p : Nat -> Bool) (g : Nat -> D) (hi : evs G cl it r h = .ok [.int (j : Int)] h1) (hm : j <= 1000) (hF : F (blockE N cap r)) (hb : ∀ d ∈ List.range j, It (fun k : Nat => D.int k) t (evt G cl cs) (ev G cl e) h1 F p g d) :
    ∃ gb, ev G cl (.comp t .r1 it cs e N cap) r h = .ok (.ref h1.length) (h1 ++ .lst (((List.range j).filter p).map g) :: gb) := by
  obtain ⟨gb, e1⟩ := compS_gen (List.range j) hb (blockE N cap r) [] [] hF (by simp; omega)
  have e2 : (List.range j).map (fun k : Nat => D.int k) = rngD 0 j := by
    unfold rngD
    simp
  rw [e2] at e1
  exact ⟨gb, evComp_r1 hi (okR_nat (by omega)) e1⟩
end
end Ng
end
section
namespace Ng
open PySem L2
def Kp (h h' : Hh) : Prop := ∀ (n : Nat) (o : O), h[n]? = some o -> h'[n]? = some o
theorem Kp.refl (h : Hh) : Kp h h := fun _ _ e => e
theorem Kp.trans {a b c : Hh} (x : Kp a b) (y : Kp b c) : Kp a c := fun n o e => y n o (x n o e)
theorem Kp.app (h g : Hh) : Kp h (h ++ g) := fun n o e => by rw [List.getElem?_append_left (List.getElem?_eq_some_iff.mp e).1]; exact e
theorem Kp.lst {h h' : Hh} (k : Kp h h') {n : Nat} {l : List D} (e : lstAt h n = some l) : lstAt h' n = some l := by
  unfold lstAt at e ⊢
  cases q : h[n]? with
  | none => rw [q] at e; cases e
  | some o => rw [q] at e; rw [k n o q]; exact e
structure Tie where
  n : Int
  one : Str
  other : Str
  m : M3
def Tie.d (t : Tie) : D := .tup [.int t.n, .str t.one, .str t.other, mo t.m]
def Tie.en (t : Tie) (x : Str) : Option Str := if t.one = x then some t.other else if t.other = x then some t.one else none
end Ng
end
section
namespace Ng
open PySem L2
section
variable {G : Gs} {cl : Cl} {W : Nat}
theorem evIxV {i : Nat} {x y d : D} {e : E} {r : Ev} {h h1 : Hh} (hr : r[i]? = some (some x)) (he : ev G cl e r h = .ok y h1) (hx : ixD x y h1 = .ok d h1) : ev G cl (.ix (.var i) e) r h = .ok d h1 := by
  rw [evIx, evVar, hr]
  show (ev G cl e r h).bind _ = _
  rw [he]
  exact hx
theorem evBin2 {op : Bop} {a b : E} {x y d : D} {r : Ev} {h h1 h2 : Hh} (ha : ev G cl a r h = .ok x h1) (hb : ev G cl b r h1 = .ok y h2) (hd : binD op x y h2 = .ok d h2) : ev G cl (.bin op a b) r h = .ok d h2 := by
  rw [evBin, ha]
  show (ev G cl b r h1).bind _ = _
  rw [hb]
  exact hd
theorem evV {i : Nat} {x : D} {r : Ev} {h : Hh} (hr : r[i]? = some (some x)) : ev G cl (.var i) r h = .ok x h := by
  rw [evVar, hr]
structure Row (h : Hh) (n : Nat) (row : List Int) : Prop where
  at' : lstAt h n = some (row.map D.int)
  inr : InR row
def Row.R (row : List Int) (j : Nat) : Int := row.getD j 0
theorem Row.ix {h h' : Hh} {n : Nat} {row : List Int} (Q : Row h n row) (kp : Kp h h') (j : Nat) (hj : j < row.length) : ixD (.ref n) (.int j) h' = .ok (.int (Row.R row j)) h' := by
  rw [iRef _ _ (kp.lst Q.at'), atI_nat (v := .int (Row.R row j)) (by rw [List.getElem?_map, List.getElem?_eq_getElem hj]; simp [Row.R, hj])]
theorem Row.rng {h : Hh} {n : Nat} {row : List Int} (Q : Row h n row) (j : Nat) (hj : j < row.length) : 0 <= Row.R row j /\ Row.R row j < 1013 := by
  have : Row.R row j = row[j] := by simp [Row.R, hj]
  rw [this]
  exact Q.inr _ (List.getElem_mem hj)
theorem app_ok {h : Hh} {p : Nat} {l : List D} (y : D) (e : h[p]? = some (.lst l)) (hl : l.length < 1000000) : appD (.ref p) y h = .ok .non (h.set p (.lst (l ++ [y]))) := by
  rw [appR, e]
  show (if _ then _ else _) = _
  rw [if_pos hl]
theorem evLen {i n : Nat} {l : List D} {r : Ev} {h : Hh} (hr : r[i]? = some (some (.ref n))) (e : lstAt h n = some l) : ev G cl (.blt .len (.cons (.var i) .nil)) r h = .ok (.int l.length) h := by
  simp only [evBlt, evsCons, evsNil, evVar, hr, bindOk, bLen, sRef, e]
theorem xsAsgV {i : Nat} {e : E} {d : D} {r : Ev} {h h' : Hh} (he : ev G cl e r h = .ok d h') : xs G cl W (.asg (.nm i) e) r h = .ok (.nx (r.set i (some d))) h' := by
  rw [xsAsg, he]; rfl
theorem xsIffT {c : E} {a b : Ss} {r : Ev} {h h' : Hh} (hc : ev G cl c r h = .ok (.bl true) h') : xs G cl W (.iff c a b) r h = xss G cl W a r h' := by
  rw [xsIff, hc]; rfl
theorem xsIffF {c : E} {a b : Ss} {r : Ev} {h h' : Hh} (hc : ev G cl c r h = .ok (.bl false) h') : xs G cl W (.iff c a b) r h = xss G cl W b r h' := by
  rw [xsIff, hc]; rfl
theorem evCmp2 {op : Cop} {a b : E} {x y d : D} {r : Ev} {h h1 h2 h3 : Hh} (ha : ev G cl a r h = .ok x h1) (hb : ev G cl b r h1 = .ok y h2) (hd : cmpD op x y h2 = .ok d h3) : ev G cl (.cmp op a b) r h = .ok d h3 := by
  rw [evCmp, ha]
  show (ev G cl b r h1).bind _ = _
  rw [hb]
  exact hd
theorem evC1 {f i : Nat} {x d : D} {r : Ev} {h h' : Hh} (hx : r[i]? = some (some x)) (e : cl f [x] h = .ok d h') : ev G cl (.call f (.cons (.var i) .nil)) r h = .ok d h' := by
  simp only [evCall, evsCons, evsNil, evV hx, bindOk, e, nxOk]
theorem evNotB {a : E} {p : Bool} {r : Ev} {h h' : Hh} (ha : ev G cl a r h = .ok (.bl p) h') : ev G cl (.not a) r h = .ok (.bl (!p)) h' := by
  rw [evNot, ha, bindOk, tBl]
theorem evTup2 {a b : E} {x y : D} {r : Ev} {h h1 h2 : Hh} (ha : ev G cl a r h = .ok x h1) (hb : ev G cl b r h1 = .ok y h2) : ev G cl (.tup (.cons a (.cons b .nil))) r h = .ok (.tup [x, y]) h2 := by
  rw [evTup, evsCons, ha, bindOk, evsCons, hb, bindOk, evsNil, bindOk, bindOk, bindOk]
  rfl
theorem evs1 {a : E} {x : D} {r : Ev} {h h1 : Hh} (ha : ev G cl a r h = .ok x h1) : evs G cl (.cons a .nil) r h = .ok [x] h1 := by
  rw [evsCons, ha, bindOk, evsNil, bindOk]
theorem evs2 {a b : E} {x y : D} {r : Ev} {h h1 h2 : Hh} (ha : ev G cl a r h = .ok x h1) (hb : ev G cl b r h1 = .ok y h2) : evs G cl (.cons a (.cons b .nil)) r h = .ok [x, y] h2 := by
  rw [evsCons, ha, bindOk, evs1 hb, bindOk]
theorem evCl {f : Nat} {l : Es} {ds : List D} {d : D} {r : Ev} {h h1 h' : Hh} (hl : evs G cl l r h = .ok ds h1) (hc : cl f ds h1 = .ok d h') : ev G cl (.call f l) r h = .ok d h' := by
  rw [evCall, hl, bindOk, hc, nxOk]
theorem evBl1 {f : Blt} {l : Es} {ds : List D} {d : D} {r : Ev} {h h1 h' : Hh} (hl : evs G cl l r h = .ok ds h1) (hc : bltD f ds h1 = .ok d h') : ev G cl (.blt f l) r h = .ok d h' := by
  rw [evBlt, hl, bindOk, hc]
theorem xsRetV {e : E} {d : D} {r : Ev} {h h' : Hh} (he : ev G cl e r h = .ok d h') : xs G cl W (.ret e) r h = .ok (.rt d) h' := by
  rw [xsRet, he]; rfl
end
abbrev St3 := Int × Int × Int
def s3 (s : St3) : D := .tup [.int s.1, .int s.2.1, .int s.2.2]
def kv (s : St3) : List Int × D := ([s.1, s.2.1], .int s.2.2)
def flds (nm : Str) (w t l : Int) (k : Nat) : List (Str × D) := [("name", .str nm), ("width", .int w), ("height", .int t), ("limit", .int l), ("bright_at", .ref k)]
def PlateAt (h : Hh) (n : Nat) (nm : Str) (w t l : Int) (S : List St3) : Prop := ∃ k, h[n]? = some (.ins "Plate" (flds nm w t l k)) /\ h[k]? = some (.dtf (S.map kv))
section
variable {G : Gs} {cl : Cl} {W : Nat}
end
end Ng
end
section
namespace Ng
open PySem L2
def dg (m : Nat) : List Nat := (Nat.toDigits 10 m).map Char.toNat
theorem digC {c : Char} (h : c.isDigit = true) : 48 <= c.toNat /\ c.toNat <= 57 := by
  unfold Char.isDigit at h
  rw [Bool.and_eq_true, decide_eq_true_eq, decide_eq_true_eq] at h
  exact ⟨h.1, h.2⟩
theorem dg_all {m c : Nat} (h : c ∈ dg m) : 48 <= c /\ c <= 57 := by
  obtain ⟨ch, hc, rfl⟩ := List.mem_map.mp h
  exact digC (Nat.isDigit_of_mem_toDigits (by decide) (by decide) hc)
theorem dg_len {m : Nat} (h : m < 10 ^ 100) : 1 <= (dg m).length /\ (dg m).length <= 100 := by
  unfold dg
  rw [List.length_map]
  exact ⟨Nat.length_toDigits_pos, (Nat.length_toDigits_le_iff (by decide) (by decide)).mpr h⟩
theorem dg_head {m : Nat} : 0 < m -> ∃ c r, dg m = c :: r /\ 49 <= c := by
  induction m using Nat.strongRecOn with
  | _ m ih =>
    intro h0
    by_cases h : m < 10
    · unfold dg
      rw [Nat.toDigits_of_lt_base h]
      refine ⟨_, _, rfl, ?_⟩
      have : ∀ d : Nat, d < 10 -> 0 < d -> 49 <= (Nat.digitChar d).toNat := by decide
      exact this m h h0
    · have hm : m % 10 < 10 := Nat.mod_lt m (by decide)
      have t : Nat.toDigits 10 (m / 10) ++ Nat.toDigits 10 (m % 10) = Nat.toDigits 10 (10 * (m / 10) + m % 10) := Nat.toDigits_append_toDigits (by decide) (by omega) hm
      rw [Nat.div_add_mod] at t
      obtain ⟨c, r, e, hc⟩ := ih (m / 10) (by omega) (by omega)
      refine ⟨c, r ++ (Nat.toDigits 10 (m % 10)).map Char.toNat, ?_, hc⟩
      unfold dg at e ⊢
      rw [<- t, List.map_append, e]; rfl
abbrev nt (i : Int) : Str := Str.ofString (toString i)
theorem nt_pos (m : Nat) : (nt (m : Int)).cps.toList = dg m := PySem.W.KIN.signs_num m
theorem nt_neg (m : Nat) : (nt (Int.negSucc m)).cps.toList = 45 :: dg (m + 1) := by
  have e := PySem.W.KIN.signs_num (m + 1)
  have q : toString (Int.negSucc m) = "-" ++ toString ((m + 1 : Nat) : Int) := rfl
  show (Str.ofString (toString (Int.negSucc m))).cps.toList = _
  rw [q]
  have : (Str.ofString ("-" ++ toString ((m + 1 : Nat) : Int))).cps.toList = 45 :: (Str.ofString (toString ((m + 1 : Nat) : Int))).cps.toList := by
    rw [PyProof.Rows.signs_ofString, PyProof.Rows.signs_ofString, String.toList_append, List.map_append]; rfl
  rw [this, e]; rfl
def Sm (i : Int) : Prop := i.natAbs < 10 ^ 100
theorem nt_cases {i : Int} (h : Sm i) : (∃ m : Nat, i = m /\ m < 10 ^ 100 /\ (nt i).cps.toList = dg m) \/ ∃ m : Nat, i = -(m : Int) /\ 0 < m /\ m < 10 ^ 100 /\ (nt i).cps.toList = 45 :: dg m := by
  cases i with
  | ofNat m => exact .inl ⟨m, rfl, h, nt_pos m⟩
  | negSucc m => exact .inr ⟨m + 1, rfl, by omega, h, nt_neg m⟩
theorem nt_len {i : Int} (h : Sm i) : 1 <= (nt i).length /\ (nt i).length <= 101 := by
  have e : (nt i).cps.toList.length = (nt i).length := Array.length_toList
  rcases nt_cases h with ⟨m, _, h1, h2⟩ | ⟨m, _, _, h1, h2⟩
  · have := dg_len h1
    rw [h2] at e; omega
  · have := dg_len h1
    rw [h2, List.length_cons] at e; omega
theorem nt_free {i : Int} (h : Sm i) {c : Nat} (hc : c = 32 \/ c = 44) : c ∉ (nt i).cps.toList := by
  intro hm
  rcases nt_cases h with ⟨m, _, h1, h2⟩ | ⟨m, _, _, h1, h2⟩
  · rw [h2] at hm
    have := dg_all hm
    omega
  · rw [h2] at hm
    rcases List.mem_cons.mp hm with e | hm
    · omega
    · have := dg_all hm
      omega
theorem nt_int {i : Int} (h : Sm i) : intText? (nt i) = some i := by
  have l := nt_len h
  rcases nt_cases h with ⟨m, rfl, h1, h2⟩ | ⟨m, rfl, _, h1, h2⟩
  · have e := PySem.intText_digits (x := nt (m : Int)) (by rw [h2]; exact fun c hc => dg_all hc) (by rw [h2]; intro z; have := (dg_len h1).1; rw [z] at this; simp at this) (by omega)
    rw [h2] at e
    rw [e]
    congr 1
    have := PySem.W.KIN.val_back m
    unfold dg
    rw [this]
  · have e := PySem.intText_neg (x := nt (-(m : Int))) (cs := dg m) h2 (fun c hc => dg_all hc) (by intro z; have := (dg_len h1).1; rw [z] at this; simp at this) (by omega)
    rw [e]
    have := PySem.W.KIN.val_back m
    unfold dg
    rw [this]
theorem nt_log {i : Int} (h : Sm i) : i.natAbs.log2 < 1920 := by
  have h' : i.natAbs < 2 ^ 1920 := Nat.lt_of_lt_of_le h (by decide +kernel)
  by_cases z : i.natAbs = 0
  · rw [z]; decide
  · exact (Nat.log2_lt z).mpr h'
def jl (c : Nat) : List (List Nat) -> List Nat
  | [] => []
  | [x] => x
  | x :: y :: r => x ++ c :: jl c (y :: r)
theorem join_jl (c : Nat) : ∀ ws : List Str, (Str.join ⟨#[c]⟩ ws).cps.toList = jl c (ws.map fun w => w.cps.toList)
  | [] => rfl
  | [x] => rfl
  | x :: y :: r => by
    show (x ++ ⟨#[c]⟩ ++ Str.join ⟨#[c]⟩ (y :: r)).cps.toList = x.cps.toList ++ c :: jl c ((y :: r).map fun w => w.cps.toList)
    rw [<- join_jl c (y :: r)]
    simp [Str.cps_append]
theorem cut_eq {c : Nat} : ∀ {a b x y : List Nat}, c ∉ a -> c ∉ b -> a ++ c :: x = b ++ c :: y -> a = b /\ x = y
  | [], [], x, y, _, _, e => ⟨rfl, (List.cons.inj e).2⟩
  | [], b :: bs, x, y, _, hb, e => absurd (by rw [(List.cons.inj e).1]; exact List.mem_cons_self) hb
  | a :: as, [], x, y, ha, _, e => absurd (by rw [<- (List.cons.inj e).1]; exact List.mem_cons_self) ha
  | a :: as, b :: bs, x, y, ha, hb, e => by
    obtain ⟨e1, e2⟩ := List.cons.inj e
    obtain ⟨h1, h2⟩ := cut_eq (fun z => ha (List.mem_cons_of_mem _ z)) (fun z => hb (List.mem_cons_of_mem _ z)) e2
    exact ⟨by rw [e1, h1], h2⟩
theorem jl_inj {c : Nat} : ∀ {vs ws : List (List Nat)}, vs ≠ [] -> ws ≠ [] -> (∀ v ∈ vs, c ∉ v) -> (∀ w ∈ ws, c ∉ w) -> jl c vs = jl c ws -> vs = ws
  | [], _, h, _, _, _, _ => absurd rfl h
  | _, [], _, h, _, _, _ => absurd rfl h
  | [x], [y], _, _, _, _, e => by rw [show x = y from e]
  | [x], y :: z :: r, _, _, hv, _, e => absurd (show c ∈ x by rw [show x = y ++ c :: jl c (z :: r) from e]; simp) (hv x List.mem_cons_self)
  | x :: z :: r, [y], _, _, _, hw, e => absurd (show c ∈ y by rw [show y = x ++ c :: jl c (z :: r) from e.symm]; simp) (hw y List.mem_cons_self)
  | x :: y :: r, x' :: y' :: r', _, _, hv, hw, e => by
    obtain ⟨e1, e2⟩ := cut_eq (hv x List.mem_cons_self) (hw x' List.mem_cons_self) (show x ++ c :: jl c (y :: r) = x' ++ c :: jl c (y' :: r') from e)
    rw [e1, jl_inj (by simp) (by simp) (fun v h => hv v (List.mem_cons_of_mem _ h)) (fun v h => hw v (List.mem_cons_of_mem _ h)) e2]
theorem split_ne (x y : Str) : Txt.split x y ≠ [] := by
  unfold Txt.split
  split
  · simp
  · split
    · simp
    · rw [StrLaws.partsBetween_eq]
      obtain ⟨p, r, e⟩ := StrLaws.partsFrom_ne x y.length 0 (Builtin.Str.occurrences x y 0 x.length (x.length + 1))
      rw [e]; simp
theorem split_join {c : Nat} {ws : List Str} (hne : ws ≠ []) (hf : ∀ w ∈ ws, c ∉ w.cps.toList) : Txt.split (Txt.join ⟨#[c]⟩ ws) ⟨#[c]⟩ = ws := by
  have ej : Txt.join ⟨#[c]⟩ ws = Str.join ⟨#[c]⟩ ws := StrLaws.glued_eq_join _ _
  rw [ej]
  have e := StrLaws.join_split (Str.join ⟨#[c]⟩ ws) ⟨#[c]⟩
  have fr := StrLaws.split_free (Str.join ⟨#[c]⟩ ws) c
  have ne := split_ne (Str.join ⟨#[c]⟩ ws) ⟨#[c]⟩
  generalize Txt.split (Str.join ⟨#[c]⟩ ws) ⟨#[c]⟩ = vs at e fr ne
  have e' := congrArg (fun s : Str => s.cps.toList) e
  simp only [join_jl] at e'
  have k := jl_inj (c := c) (vs := vs.map fun w => w.cps.toList) (ws := ws.map fun w => w.cps.toList) (by simpa using ne) (by simpa using hne) (fun v hv => by obtain ⟨w, hw, rfl⟩ := List.mem_map.mp hv; exact fr w hw) (fun v hv => by obtain ⟨w, hw, rfl⟩ := List.mem_map.mp hv; exact hf w hw) e'
  have inj : ∀ {vs ws : List Str}, vs.map (fun w => w.cps.toList) = ws.map (fun w => w.cps.toList) -> vs = ws := fun {vs} => by
    induction vs with
    | nil => intro ws h; cases ws with
      | nil => rfl
      | cons => cases h
    | cons a l ih =>
      intro ws h
      cases ws with
      | nil => cases h
      | cons b r =>
        obtain ⟨h1, h2⟩ := List.cons.inj h
        rw [Str.ext' (Array.toList_inj.mp h1), ih h2]
  exact inj k
theorem starts1 (z : Str) (c : Nat) : Txt.startswith z ⟨#[c]⟩ = (z.cps.toList.head? == some c) := by
  have h := StrLaws.subAt_eq z ⟨#[c]⟩ 0
  unfold Txt.startswith
  rw [h]
  have ln : z.cps.toList.length = z.length := Array.length_toList
  generalize z.cps.toList = l at *
  rw [<- ln]
  cases l with
  | nil => rfl
  | cons a l => simp [Str.length]
end Ng
end
section
namespace Ng
open PySem L2
abbrev abS : Str := "abcdefghijklmnopqrstuvwxyz"
abbrev fgS : Str := "0123456789"
structure NmG (nm : Str) : Prop where
  lo : 1 <= nm.length
  hi : nm.length <= 12
  ch : ∀ c ∈ nm.cps.toList, 97 <= c /\ c <= 122
theorem ab_mem : ∀ c : Nat, c < 123 -> 97 <= c -> c ∈ abS.cps.toList := by decide +kernel
theorem fg_mem : ∀ c : Nat, c < 58 -> 48 <= c -> c ∈ fgS.cps.toList := by decide +kernel
theorem NmG.free {nm : Str} (N : NmG nm) {c : Nat} (hc : c = 32 \/ c = 44) : c ∉ nm.cps.toList := fun h => by
  have := N.ch c h
  omega
section
variable {G : Gs} {cl : Cl} {W : Nat}
@[simp] theorem evFst (l : Es) (r : Ev) (h : Hh) : ev G cl (.fst l) r h = (evs G cl l r h).bind fun ds h => fstD ds h := by rw [ev]
@[simp] theorem evFmt (a : E) (r : Ev) (h : Hh) : ev G cl (.fmt a) r h = (ev G cl a r h).bind fun x h => fmtD x h := by rw [ev]
@[simp] theorem evSof (a : E) (r : Ev) (h : Hh) : ev G cl (.sof a) r h = (ev G cl a r h).bind fun x h => fmtD x h := by rw [ev]
@[simp] theorem evItx (a : E) (r : Ev) (h : Hh) : ev G cl (.itx a) r h = (ev G cl a r h).bind fun x h => itxD x h := by rw [ev]
@[simp] theorem evSpl (o : E) (c : Str) (r : Ev) (h : Hh) : ev G cl (.spl o c) r h = (ev G cl o r h).bind fun x h => splD c x h := by rw [ev]
@[simp] theorem evStw (o : E) (c : Str) (r : Ev) (h : Hh) : ev G cl (.stw o c) r h = (ev G cl o r h).bind fun x h => stwD c x h := by rw [ev]
@[simp] theorem evRep (a b : E) (r : Ev) (h : Hh) : ev G cl (.rep a b) r h = (ev G cl a r h).bind fun x h => (ev G cl b r h).bind fun y h => repD x y h := by rw [ev]
@[simp] theorem evJoin' (x : Str) (a : E) (r : Ev) (h : Hh) : ev G cl (.join x a) r h = (ev G cl a r h).bind fun y h => joinD x y h := by rw [ev]
@[simp] theorem evSlU' (a b : E) (r : Ev) (h : Hh) : ev G cl (.slU a b) r h = (ev G cl a r h).bind fun x h => (ev G cl b r h).bind fun y h => slUD x y h := by rw [ev]
@[simp] theorem evSlL' (a b : E) (r : Ev) (h : Hh) : ev G cl (.slL a b) r h = (ev G cl a r h).bind fun x h => (ev G cl b r h).bind fun y h => slLD x y h := by rw [ev]
@[simp] theorem xsAsgS (i j : Nat) (e : E) (r : Ev) (h : Hh) : xs G cl W (.asgS i j e) r h = (ev G cl e r h).nx.bind fun x h => match seqD x h with
    | some (d :: ds) => if ds.length <= 1000 then .ok (.nx ((r.set i (some d)).set j (some (.ref h.length)))) (h ++ [.lst ds]) else .bad
    | _ => .bad := by rw [xs] <;> rfl
theorem fmtI {i : Int} (h : Hh) (s : Sm i) : fmtD (.int i) h = .ok (.str (nt i)) h := by
  unfold fmtD
  exact if_pos (nt_log s)
theorem fmtS {z : Str} (h : Hh) (s : z.length <= 100000) : fmtD (.str z) h = .ok (.str z) h := by
  unfold fmtD
  exact if_pos s
theorem slU_at {h : Hh} {n : Nat} {l : List D} {i : Int} (e : lstAt h n = some l) (hi : 0 <= i) : slUD (.ref n) (.int i) h = .ok (.ref h.length) (h ++ [.lst (l.take i.toNat)]) := by
  have e1 : isLst (.ref n) h = true := by rw [isLstR, e]; rfl
  simp only [slUD, e1, sRef, e, hi, if_true]
theorem slL_at {h : Hh} {n : Nat} {l : List D} {i : Int} (e : lstAt h n = some l) (hi : 0 <= i) : slLD (.ref n) (.int i) h = .ok (.ref h.length) (h ++ [.lst (l.drop i.toNat)]) := by
  have e1 : isLst (.ref n) h = true := by rw [isLstR, e]; rfl
  simp only [slLD, e1, sRef, e, hi, if_true]
theorem tup_at {h : Hh} {n : Nat} {l : List D} (e : lstAt h n = some l) : bltD .tup [.ref n] h = .ok (.tup l) h := by
  have e1 : isLst (.ref n) h = true := by rw [isLstR, e]; rfl
  show tupL (.ref n) h = _
  simp only [tupL, e1, sRef, e]
theorem strs_map (l : List Str) : strsD (l.map D.str) = some l := by
  induction l with
  | nil => rfl
  | cons x l ih => rw [List.map_cons, strsD, ih]; rfl
theorem join_at {h : Hh} {n : Nat} {l : List Str} {s : Str} (e : lstAt h n = some (l.map D.str)) (hz : (l.map (·.length)).sum + l.length * s.length <= 100000) : joinD s (.ref n) h = .ok (.str (Txt.join s l)) h := by
  have e1 : isLst (.ref n) h = true := by rw [isLstR, e]; rfl
  simp only [joinD, e1, sRef, e, strs_map, hz, if_true]
theorem lenS {z : Str} (h : Hh) (hz : z.length <= 1000) : bltD .len [.str z] h = .ok (.int z.length) h := by
  rw [bLen]
  show (if z.length <= sizeLine then _ else _) = _
  rw [if_pos (Nat.le_trans hz (by decide))]
theorem all_tr {α : Type} {h : Hh} {n : Nat} (l : List α) (e : lstAt h n = some (l.map fun _ => D.bl true)) : bltD .all [.ref n] h = .ok (.bl true) h := by
  show allL (.ref n) h = _
  unfold allL
  have e1 : isLst (.ref n) h = true := by rw [isLstR, e]; rfl
  have bt : blsD (l.map fun _ => D.bl true) = some (l.map fun _ => true) := by
    clear e e1
    induction l with
    | nil => rfl
    | cons a l ih => rw [List.map_cons, blsD, ih]; rfl
  rw [e1, sRef, e]
  simp only [bt]
  congr 2
  rw [List.all_eq_true]
  intro x hx
  obtain ⟨_, _, rfl⟩ := List.mem_map.mp hx
  rfl
abbrev coB : Ss := (.cons (.ret (.and (.cmp .ne (.var 0) (.str "")) (.blt .all (.cons (.comp (.nm 0) .st (.cons (.var 0) .nil) .nil (.cmp .inn (.var 0) (.var 1)) ["sign", "signs"] [1]) .nil)))) .nil)
def Con (cl : Cl) (f : Nat) : Prop := ∀ (h : Hh) (z s : Str), 1 <= z.length -> z.length <= 1000 -> (∀ c ∈ z.cps.toList, c ∈ s.cps.toList) -> ∃ g, cl f [.str z, .str s] h = .ok (.bl true) (h ++ g)
theorem con_ok {h : Hh} {z s : Str} (h1 : 1 <= z.length) (h2 : z.length <= 1000) (h3 : ∀ c ∈ z.cps.toList, c ∈ s.cps.toList) : ∃ g, (xss G cl W coB [some (.str z), some (.str s)] h).bind endD = .ok (.bl true) (h ++ g) := by
  have ne : z ≠ ("" : Str) := fun e => by rw [e] at h1; exact absurd h1 (by decide)
  obtain ⟨gb, q⟩ := compS_gen (φ := fun c : Nat => D.str ⟨#[c]⟩) (t := .nm 0) (cs := evt G cl .nil) (f := ev G cl (.cmp .inn (.var 0) (.var 1))) (h0 := h) (F := fun r => ∃ a, r = [a, some (.str s)]) (p := fun _ => true) (g := fun _ => D.bl true) z.cps.toList (fun c hc => ⟨fun r ys gb hr => by
    obtain ⟨a, rfl⟩ := hr
    refine ⟨[some (.str ⟨#[c]⟩), some (.str s)], [], rfl, by rw [evtNil, List.append_nil], ⟨_, rfl⟩, fun _ => ⟨[], ?_⟩⟩
    rw [List.append_nil, List.append_nil]
    refine evCmp2 (evV rfl) (evV rfl) ?_
    have e : inX (.str ⟨#[c]⟩) (.str s) (h ++ .lst ys :: gb) = some true := by
      show some (!(Builtin.Str.occurrences s ⟨#[c]⟩ 0 s.length 1).isEmpty) = _
      rw [StrLaws.found_one, decide_eq_true (h3 c hc)]
    unfold cmpD
    simp only [e]⟩) (blockE ["sign", "signs"] [1] [some (.str z), some (.str s)]) [] [] ⟨none, rfl⟩ (by
      have e : z.cps.toList.length = z.length := Array.length_toList
      simp only [List.length_nil]; omega)
  rw [List.filter_eq_self.mpr (fun _ _ => rfl), List.nil_append] at q
  have c2 : ev G cl (.comp (.nm 0) .st (.cons (.var 0) .nil) .nil (.cmp .inn (.var 0) (.var 1)) ["sign", "signs"] [1]) [some (.str z), some (.str s)] h = .ok (.ref h.length) (h ++ .lst (z.cps.toList.map fun _ => D.bl true) :: gb) := by
    rw [evComp, evs1 (evV rfl), bindOk]
    have e' : compL (.nm 0) (evt G cl .nil) (ev G cl (.cmp .inn (.var 0) (.var 1))) h.length .st [.str z] h (blockE ["sign", "signs"] [1] [some (.str z), some (.str s)]) (h ++ [.lst []]) = .ok () (h ++ .lst (z.cps.toList.map fun _ => D.bl true) :: gb) := by
      show (if z.length <= 1000 then _ else _) = _
      rw [if_pos h2]
      exact q
    rw [e']; rfl
  refine ⟨.lst (z.cps.toList.map fun _ => D.bl true) :: gb, ?_⟩
  rw [xssRt (xsRetV (d := .bl true) (h' := h ++ .lst (z.cps.toList.map fun _ => D.bl true) :: gb) (by
    rw [evAnd, evCmp2 (evV rfl) (evStr ..) (cNeS ..), bindOk, decide_eq_false ne]
    show ev G cl _ _ _ = _
    exact evBl1 (evs1 c2) (all_tr _ (lstAt_mid ..))))]
  rfl
abbrev isB : Ss := (.cons (.asg (.nm 1) (.ite (.stw (.var 0) "-") (.slZ (.var 0) (.int 1)) (.var 0))) (.cons (.iff (.or (.not (.call 0 (.cons (.var 1) (.cons (.gc 1) .nil)))) (.cmp .gt (.blt .len (.cons (.var 1) .nil)) (.gc 2))) (.cons (.ret (.bl false)) .nil) .nil) (.cons (.ret (.or (.cmp .eq (.var 0) (.str "0")) (.not (.stw (.var 1) "0")))) .nil)))
def Isu (cl : Cl) (f : Nat) : Prop := ∀ (h : Hh) (i : Int), Sm i -> ∃ g, cl f [.str (nt i)] h = .ok (.bl true) (h ++ g)
theorem figs {i : Int} (s : Sm i) (h : Hh) : ∃ (m : Nat) (z : Str), z.cps.toList = dg m /\ m < 10 ^ 100 /\ i.natAbs = m /\ ev G cl (.ite (.stw (.var 0) "-") (.slZ (.var 0) (.int 1)) (.var 0)) [some (.str (nt i)), none] h = .ok (.str z) h := by
  have st := starts1 (nt i) 45
  have e0 : ev G cl (.stw (.var 0) "-") [some (.str (nt i)), none] h = .ok (.bl (Txt.startswith (nt i) ⟨#[45]⟩)) h := by
    rw [evStw, evV (x := .str (nt i)) rfl]; rfl
  rw [evIte, e0, bindOk, tBl]
  rcases nt_cases s with ⟨m, e, hm, hl⟩ | ⟨m, e, _, hm, hl⟩
  · have : (((nt i).cps.toList.head? == some 45) : Bool) = false := by
      rw [hl]
      cases hd : dg m with
      | nil => rfl
      | cons c r =>
        have := dg_all (m := m) (c := c) (by rw [hd]; exact List.mem_cons_self)
        rw [List.head?_cons]
        exact beq_false_of_ne (by intro z; cases z; omega)
    rw [st, this]
    exact ⟨m, nt i, hl, hm, by rw [e]; rfl, evV rfl⟩
  · have : (((nt i).cps.toList.head? == some 45) : Bool) = true := by rw [hl]; rfl
    rw [st, this]
    refine ⟨m, ⟨((nt i).cps.toList.drop 1).toArray⟩, by rw [hl]; simp, hm, by rw [e]; omega, ?_⟩
    show ev G cl (.slZ (.var 0) (.int 1)) _ h = _
    rw [evSlZ, evV (x := .str (nt i)) rfl, bindOk, evInt, bindOk]
    show (if (0 : Int) <= 1 /\ (nt i).length <= 1000 then _ else _) = _
    rw [if_pos ⟨by decide, by have := (nt_len s).2; omega⟩]
    rfl
theorem isu_ok (g1 : ∀ r h, ev G cl (.gc 1) r h = .ok (.str fgS) h) (g2 : ∀ r h, ev G cl (.gc 2) r h = .ok (.int 100) h) (hc : Con cl 0) {h : Hh} {i : Int} (s : Sm i) : ∃ g, (xss G cl W isB [some (.str (nt i)), none] h).bind endD = .ok (.bl true) (h ++ g) := by
  obtain ⟨m, z, hz, hm, hi, e1⟩ := figs (G := G) (cl := cl) s h
  have dl := dg_len hm
  have lz : z.length = (dg m).length := by rw [<- hz]; exact Array.length_toList.symm
  obtain ⟨g, e2⟩ := hc h z fgS (by omega) (by omega) fun c hc => by rw [hz] at hc; have := dg_all hc; exact fg_mem c (by omega) (by omega)
  refine ⟨g, ?_⟩
  have e3 : ev G cl (.call 0 (.cons (.var 1) (.cons (.gc 1) .nil))) [some (.str (nt i)), some (.str z)] h = .ok (.bl true) (h ++ g) := evCl (evs2 (evV rfl) (g1 _ _)) e2
  have e4 : ev G cl (.or (.not (.call 0 (.cons (.var 1) (.cons (.gc 1) .nil)))) (.cmp .gt (.blt .len (.cons (.var 1) .nil)) (.gc 2))) [some (.str (nt i)), some (.str z)] h = .ok (.bl false) (h ++ g) := by
    rw [evOr, evNotB e3, bindOk]
    show ev G cl _ _ _ = _
    rw [evCmp2 (evBl1 (evs1 (evV rfl)) (lenS _ (by omega))) (g2 _ _) (cGt ..), decide_eq_false (by omega)]
  rw [xssNx (r' := [some (.str (nt i)), some (.str z)]) (h' := h) (xsAsgV e1), xssNx (r' := [some (.str (nt i)), some (.str z)]) (h' := h ++ g) (by rw [xsIffF e4, xssNil])]
  rw [xssRt (xsRetV (d := .bl true) (h' := h ++ g) ?_)]
  · rfl
  · rw [evOr, evCmp2 (evV rfl) (evStr ..) (cEqS ..), bindOk, tBl]
    by_cases hi0 : i = 0
    · subst hi0
      rw [decide_eq_true (show nt 0 = ("0" : Str) from rfl)]
    · obtain ⟨c, r, ed, h49⟩ := dg_head (m := m) (by omega)
      have n0 : nt i ≠ ("0" : Str) := fun e => by
        rcases nt_cases s with ⟨m', e', hm', hl⟩ | ⟨m', e', _, hm', hl⟩
        · obtain ⟨c', r', ed', h49'⟩ := dg_head (m := m') (by omega)
          rw [e, ed'] at hl
          have := (List.cons.inj (show [48] = c' :: r' from hl)).1
          omega
        · rw [e] at hl
          have := (List.cons.inj (show [48] = 45 :: dg m' from hl)).1
          omega
      rw [decide_eq_false n0]
      show ev G cl _ _ _ = _
      have e5 : ev G cl (.stw (.var 1) "0") [some (.str (nt i)), some (.str z)] (h ++ g) = .ok (.bl false) (h ++ g) := by
        rw [evStw, evV (x := .str z) rfl]
        show Rs.ok (D.bl (Txt.startswith z ⟨#[48]⟩)) (h ++ g) = _
        rw [starts1, hz, ed, List.head?_cons, beq_false_of_ne (by intro z; cases z; omega)]
      exact evNotB e5
abbrev rwB : Ss := (.cons (.iff (.and (.cmp .eq (.var 1) (.str "name")) (.call 0 (.cons (.var 0) (.cons (.gc 0) .nil)))) (.cons (.ret (.var 0)) .nil) .nil) (.cons (.iff (.and (.cmp .eq (.var 1) (.str "number")) (.call 1 (.cons (.var 0) .nil))) (.cons (.ret (.itx (.var 0))) .nil) .nil) (.cons .never .nil)))
abbrev Wk := Sum Str Int
def Wk.w : Wk -> Str
  | .inl x => x
  | .inr i => nt i
def Wk.k : Wk -> Str
  | .inl _ => "name"
  | .inr _ => "number"
def Wk.v : Wk -> D
  | .inl x => .str x
  | .inr i => .int i
def Wk.ok : Wk -> Prop
  | .inl x => NmG x
  | .inr i => Sm i
def Rdw (cl : Cl) (f : Nat) : Prop := ∀ (h : Hh) (x : Wk), x.ok -> ∃ g, cl f [.str x.w, .str x.k] h = .ok x.v (h ++ g)
theorem rdw_ok (g0 : ∀ r h, ev G cl (.gc 0) r h = .ok (.str abS) h) (hc : Con cl 0) (hn : Isu cl 1) {h : Hh} {x : Wk} (o : x.ok) : ∃ g, (xss G cl W rwB [some (.str x.w), some (.str x.k)] h).bind endD = .ok x.v (h ++ g) := by
  cases x with
  | inl nm =>
    obtain ⟨g, e⟩ := hc h nm abS o.lo (Nat.le_trans o.hi (by decide)) fun c hc => by have := o.ch c hc; exact ab_mem c (by omega) (by omega)
    refine ⟨g, ?_⟩
    show (xss G cl W rwB [some (.str nm), some (.str "name")] h).bind endD = .ok (.str nm) (h ++ g)
    have c1 : ev G cl (.and (.cmp .eq (.var 1) (.str "name")) (.call 0 (.cons (.var 0) (.cons (.gc 0) .nil)))) [some (.str nm), some (.str "name")] h = .ok (.bl true) (h ++ g) := by
      rw [evAnd, evCmp2 (evV rfl) (evStr ..) (cEqS ..), bindOk, decide_eq_true rfl]
      show ev G cl _ _ _ = _
      exact evCl (evs2 (evV rfl) (g0 _ _)) e
    rw [xssRt (d := .str nm) (h' := h ++ g) (by rw [xsIffT c1, xssRt (xsRetV (evV rfl))])]
    rfl
  | inr i =>
    obtain ⟨g, e⟩ := hn h i o
    refine ⟨g, ?_⟩
    show (xss G cl W rwB [some (.str (nt i)), some (.str "number")] h).bind endD = .ok (.int i) (h ++ g)
    have c1 : ev G cl (.and (.cmp .eq (.var 1) (.str "name")) (.call 0 (.cons (.var 0) (.cons (.gc 0) .nil)))) [some (.str (nt i)), some (.str "number")] h = .ok (.bl false) h := by
      rw [evAnd, evCmp2 (evV rfl) (evStr ..) (cEqS ..), bindOk, decide_eq_false (by decide)]
      rfl
    have c2 : ev G cl (.and (.cmp .eq (.var 1) (.str "number")) (.call 1 (.cons (.var 0) .nil))) [some (.str (nt i)), some (.str "number")] h = .ok (.bl true) (h ++ g) := by
      rw [evAnd, evCmp2 (evV rfl) (evStr ..) (cEqS ..), bindOk, decide_eq_true rfl]
      show ev G cl _ _ _ = _
      exact evCl (evs1 (evV rfl)) e
    have c3 : ev G cl (.itx (.var 0)) [some (.str (nt i)), some (.str "number")] (h ++ g) = .ok (.int i) (h ++ g) := by
      rw [evItx, evV (x := .str (nt i)) rfl, bindOk]
      show (if (nt i).length <= 640 then _ else _) = _
      rw [if_pos (by have := (nt_len o).2; omega), nt_int o]
    rw [xssNx (r' := [some (.str (nt i)), some (.str "number")]) (h' := h) (by rw [xsIffF c1, xssNil]), xssRt (d := .int i) (h' := h ++ g) (by rw [xsIffT c2, xssRt (xsRetV c3)])]
    rfl
abbrev rsB : Ss := (.cons (.iff (.cmp .ne (.blt .len (.cons (.var 0) .nil)) (.blt .len (.cons (.var 1) .nil))) (.cons .never .nil) .nil) (.cons (.ret (.comp (.tp [0, 1]) .zp (.cons (.var 0) (.cons (.var 1) .nil)) .nil (.call 2 (.cons (.var 0) (.cons (.var 1) .nil))) ["word", "kind"] [])) .nil))
theorem compZ_ok (hr : Rdw cl 2) {h0 : Hh} {n : Nat} {l : List Wk} (hl : lstAt h0 n = some (l.map fun x => D.str x.w)) (hm : l.length <= 1000) (ho : ∀ x ∈ l, x.ok) : ∀ (k i : Nat) (r : Ev) (ys : List D) (gb : Hh), k = l.length - i -> (∃ a b, r = [a, b]) -> i <= l.length -> ys.length <= i ->
    ∃ gb', compZ (.tp [0, 1]) (evt G cl .nil) (ev G cl (.call 2 (.cons (.var 0) (.cons (.var 1) .nil)))) h0.length n i ((l.drop i).map fun x => D.str x.k) r (h0 ++ .lst ys :: gb) = .ok () (h0 ++ .lst (ys ++ (l.drop i).map Wk.v) :: gb') := by
  intro k
  induction k with
  | zero =>
    intro i r ys gb hk _ hi _
    have ei : i = l.length := by omega
    subst ei
    refine ⟨gb, ?_⟩
    rw [List.drop_length]
    simp only [List.map_nil, compZ, lstAt_app _ (.lst ys :: gb) hl, List.length_map, Nat.le_refl, if_true, List.append_nil]
  | succ k ih =>
    intro i r ys gb hk ⟨a, b, er⟩ hi hy
    subst er
    have hlt : i < l.length := by omega
    rw [List.drop_eq_getElem_cons hlt]
    have ed : (l.map fun x => D.str x.w)[i]? = some (D.str l[i].w) := by rw [List.getElem?_map, List.getElem?_eq_getElem hlt]; rfl
    obtain ⟨g, e⟩ := hr (h0 ++ .lst ys :: gb) l[i] (ho _ (List.getElem_mem hlt))
    have e' : ev G cl (.call 2 (.cons (.var 0) (.cons (.var 1) .nil))) [some (.str l[i].w), some (.str l[i].k)] (h0 ++ .lst ys :: gb) = .ok l[i].v (h0 ++ .lst ys :: (gb ++ g)) := by
      rw [evCl (evs2 (evV rfl) (evV rfl)) e, List.append_assoc]; rfl
    obtain ⟨gb', q⟩ := ih (i + 1) [some (.str l[i].w), some (.str l[i].k)] (ys ++ [l[i].v]) (gb ++ g) (by omega) ⟨_, _, rfl⟩ hlt (by simp; omega)
    refine ⟨gb', ?_⟩
    rw [List.map_cons, List.map_cons, compZ]
    simp only [lstAt_app _ (.lst ys :: gb) hl, ed, setTp, List.length_cons, List.length_nil, if_true, setAll1, setAll0, List.set_cons_zero, List.set_cons_succ, evtNil, bindOk, e', app_mid _ _ _ _ (show ys.length < 1000000 by omega), q, List.append_assoc, List.cons_append, List.nil_append]
def Rds (cl : Cl) (f : Nat) : Prop := ∀ (h : Hh) (n : Nat) (l : List Wk), lstAt h n = some (l.map fun x => D.str x.w) -> l.length <= 1000 -> (∀ x ∈ l, x.ok) -> ∃ g, cl f [.ref n, .tup (l.map fun x => D.str x.k)] h = .ok (.ref h.length) (h ++ .lst (l.map Wk.v) :: g)
theorem rds_ok (hr : Rdw cl 2) {h : Hh} {n : Nat} {l : List Wk} (hl : lstAt h n = some (l.map fun x => D.str x.w)) (hm : l.length <= 1000) (ho : ∀ x ∈ l, x.ok) : ∃ g, (xss G cl W rsB [some (.ref n), some (.tup (l.map fun x => D.str x.k))] h).bind endD = .ok (.ref h.length) (h ++ .lst (l.map Wk.v) :: g) := by
  obtain ⟨g, q⟩ := compZ_ok (G := G) hr hl hm ho l.length 0 (blockE ["word", "kind"] [] [some (.ref n), some (.tup (l.map fun x => D.str x.k))]) [] [] (by omega) ⟨_, _, rfl⟩ (Nat.zero_le _) (Nat.le_refl _)
  refine ⟨g, ?_⟩
  have c1 : ev G cl (.cmp .ne (.blt .len (.cons (.var 0) .nil)) (.blt .len (.cons (.var 1) .nil))) [some (.ref n), some (.tup (l.map fun x => D.str x.k))] h = .ok (.bl false) h := by
    rw [evCmp2 (evLen rfl hl) (evBl1 (evs1 (evV (i := 1) rfl)) (by rw [bLen, sTup])) (cNeI ..)]
    simp
  have c2 : ev G cl (.comp (.tp [0, 1]) .zp (.cons (.var 0) (.cons (.var 1) .nil)) .nil (.call 2 (.cons (.var 0) (.cons (.var 1) .nil))) ["word", "kind"] []) [some (.ref n), some (.tup (l.map fun x => D.str x.k))] h = .ok (.ref h.length) (h ++ .lst (l.map Wk.v) :: g) := by
    rw [evComp, evs2 (evV rfl) (evV rfl), bindOk]
    show (compZ _ _ _ _ _ _ _ _ _).bind _ = _
    rw [List.drop_zero, List.nil_append] at q
    rw [q]; rfl
  rw [xssNx (r' := [some (.ref n), some (.tup (l.map fun x => D.str x.k))]) (h' := h) (by rw [xsIffF c1, xssNil]), xssRt (xsRetV c2)]
  rfl
end
end Ng
end
section
namespace Ng
open PySem L2
abbrev bkS : Str := ⟨#[32]⟩
abbrev cmS : Str := ⟨#[44]⟩
abbrev S3 := Int × Int × Int
def sd3 (s : S3) : D := .tup [.int s.1, .int s.2.1, .int s.2.2]
def ok3 (s : S3) : Prop := Sm s.1 /\ Sm s.2.1 /\ Sm s.2.2
def sw (s : S3) : Str := Str.join cmS [nt s.1, nt s.2.1, nt s.2.2]
theorem tj (c : Str) (l : List Str) : Txt.join c l = Str.join c l := StrLaws.glued_eq_join _ _
theorem lenJ (c : Str) (l : List Str) : (Str.join c l).length <= (l.map (·.length)).sum + l.length * c.length := StrLaws.join_length_le c l
theorem sw_len {s : S3} (o : ok3 s) : (sw s).length <= 310 := by
  have := lenJ cmS [nt s.1, nt s.2.1, nt s.2.2]
  have a := (nt_len o.1).2
  have b := (nt_len o.2.1).2
  have c := (nt_len o.2.2).2
  have e : cmS.length = 1 := rfl
  simp only [List.map_cons, List.map_nil, List.sum_cons, List.sum_nil, List.length_cons, List.length_nil] at this
  rw [e] at this
  unfold sw
  omega
theorem cps_app (a b : Str) : (a ++ b).cps.toList = a.cps.toList ++ b.cps.toList := by simp [Str.cps_append]
theorem sw_free {s : S3} (o : ok3 s) : 32 ∉ (sw s).cps.toList := by
  have a := nt_free o.1 (c := 32) (.inl rfl)
  have b := nt_free o.2.1 (c := 32) (.inl rfl)
  have c := nt_free o.2.2 (c := 32) (.inl rfl)
  show 32 ∉ (nt s.1 ++ cmS ++ (nt s.2.1 ++ cmS ++ nt s.2.2)).cps.toList
  simp only [cps_app, List.mem_append, not_or]
  exact ⟨⟨a, by decide⟩, ⟨b, by decide⟩, c⟩
inductive Dd where
  | drop (nm : Str) | untie (i : Int) | tie (a b : Str) (m : S3) | put (nm : Str) (w t l : Int) (S : List S3)
def Dd.d : Dd -> D
  | .drop nm => .tup [.str "drop", .str nm]
  | .untie i => .tup [.str "untie", .int i]
  | .tie a b m => .tup [.str "tie", .str a, .str b, sd3 m]
  | .put nm w t l S => .tup [.str "put", .str nm, .int w, .int t, .int l, .tup (S.map sd3)]
def Dd.ok : Dd -> Prop
  | .drop nm => NmG nm
  | .untie i => Sm i
  | .tie a b m => NmG a /\ NmG b /\ ok3 m
  | .put nm w t l S => NmG nm /\ Sm w /\ Sm t /\ Sm l /\ S.length <= 10 /\ ∀ s ∈ S, ok3 s
def Dd.hd : Dd -> Str
  | .drop _ => "drop"
  | .untie _ => "untie"
  | .tie _ _ _ => "tie"
  | .put _ _ _ _ _ => "put"
def Dd.rs : Dd -> List Str
  | .drop nm => [nm]
  | .untie i => [nt i]
  | .tie a b m => [a, b, nt m.1, nt m.2.1, nt m.2.2]
  | .put nm w t l S => [nm, nt w, nt t, nt l] ++ S.map sw
def Dd.tx (d : Dd) : Str := Str.join bkS (d.hd :: d.rs)
theorem rs_len {d : Dd} (o : d.ok) : d.rs.length <= 14 /\ ∀ x ∈ d.rs, x.length <= 310 := by
  cases d with
  | drop nm => exact ⟨by show 1 <= 14; decide, fun x h => by rw [List.mem_singleton.mp h]; exact Nat.le_trans o.hi (by decide)⟩
  | untie i => exact ⟨by show 1 <= 14; decide, fun x h => by rw [List.mem_singleton.mp h]; exact Nat.le_trans (nt_len o).2 (by decide)⟩
  | tie a b m =>
    refine ⟨by show 5 <= 14; decide, fun x h => ?_⟩
    simp only [Dd.rs, List.mem_cons, List.not_mem_nil, or_false] at h
    rcases h with rfl | rfl | rfl | rfl | rfl
    · exact Nat.le_trans o.1.hi (by decide)
    · exact Nat.le_trans o.2.1.hi (by decide)
    · exact Nat.le_trans (nt_len o.2.2.1).2 (by decide)
    · exact Nat.le_trans (nt_len o.2.2.2.1).2 (by decide)
    · exact Nat.le_trans (nt_len o.2.2.2.2).2 (by decide)
  | put nm w t l S =>
    obtain ⟨o1, o2, o3, o4, o5, o6⟩ := o
    refine ⟨by simp only [Dd.rs, List.length_append, List.length_cons, List.length_nil, List.length_map]; omega, fun x h => ?_⟩
    simp only [Dd.rs, List.mem_append, List.mem_cons, List.not_mem_nil, or_false, List.mem_map] at h
    rcases h with (rfl | rfl | rfl | rfl) | ⟨s, hs, rfl⟩
    · exact Nat.le_trans o1.hi (by decide)
    · exact Nat.le_trans (nt_len o2).2 (by decide)
    · exact Nat.le_trans (nt_len o3).2 (by decide)
    · exact Nat.le_trans (nt_len o4).2 (by decide)
    · exact sw_len (o6 s hs)
theorem hd_free : ∀ d : Dd, 32 ∉ d.hd.cps.toList
  | .drop _ => (by decide : 32 ∉ (Str.ofString "drop").cps.toList)
  | .untie _ => (by decide : 32 ∉ (Str.ofString "untie").cps.toList)
  | .tie _ _ _ => (by decide : 32 ∉ (Str.ofString "tie").cps.toList)
  | .put _ _ _ _ _ => (by decide : 32 ∉ (Str.ofString "put").cps.toList)
theorem hd_len : ∀ d : Dd, d.hd.length <= 5
  | .drop _ => (by decide : (Str.ofString "drop").length <= 5)
  | .untie _ => (by decide : (Str.ofString "untie").length <= 5)
  | .tie _ _ _ => (by decide : (Str.ofString "tie").length <= 5)
  | .put _ _ _ _ _ => (by decide : (Str.ofString "put").length <= 5)
theorem rs_free {d : Dd} (o : d.ok) : ∀ x ∈ d.hd :: d.rs, 32 ∉ x.cps.toList := by
  intro x h
  rcases List.mem_cons.mp h with rfl | h
  · exact hd_free d
  cases d with
  | drop nm => rw [List.mem_singleton.mp h]; exact NmG.free o (.inl rfl)
  | untie i => rw [List.mem_singleton.mp h]; exact nt_free o (.inl rfl)
  | tie a b m =>
    simp only [Dd.rs, List.mem_cons, List.not_mem_nil, or_false] at h
    rcases h with rfl | rfl | rfl | rfl | rfl
    · exact o.1.free (.inl rfl)
    · exact o.2.1.free (.inl rfl)
    · exact nt_free o.2.2.1 (.inl rfl)
    · exact nt_free o.2.2.2.1 (.inl rfl)
    · exact nt_free o.2.2.2.2 (.inl rfl)
  | put nm w t l S =>
    obtain ⟨o1, o2, o3, o4, o5, o6⟩ := o
    simp only [Dd.rs, List.mem_append, List.mem_cons, List.not_mem_nil, or_false, List.mem_map] at h
    rcases h with (rfl | rfl | rfl | rfl) | ⟨s, hs, rfl⟩
    · exact o1.free (.inl rfl)
    · exact nt_free o2 (.inl rfl)
    · exact nt_free o3 (.inl rfl)
    · exact nt_free o4 (.inl rfl)
    · exact sw_free (o6 s hs)
theorem sum_le {B : Nat} : ∀ (l : List Str), (∀ x ∈ l, x.length <= B) -> (l.map (·.length)).sum <= l.length * B
  | [], _ => by simp
  | x :: l, h => by
    have := sum_le l fun y hy => h y (List.mem_cons_of_mem _ hy)
    have hx := h x List.mem_cons_self
    rw [List.map_cons, List.sum_cons, List.length_cons, Nat.succ_mul]
    omega
theorem ws_sum {d : Dd} (o : d.ok) : ((d.hd :: d.rs).map (·.length)).sum + (d.hd :: d.rs).length * bkS.length <= 10000 := by
  obtain ⟨a, b⟩ := rs_len o
  have := sum_le d.rs b
  have hh : d.hd.length <= 5 := hd_len d
  have e : bkS.length = 1 := rfl
  rw [List.map_cons, List.sum_cons, List.length_cons, e]
  have : d.rs.length * 310 <= 14 * 310 := Nat.mul_le_mul a (Nat.le_refl _)
  omega
theorem tx_len {d : Dd} (o : d.ok) : d.tx.length <= 10000 := Nat.le_trans (lenJ bkS _) (ws_sum o)
section
variable {G : Gs} {cl : Cl} {W : Nat}
abbrev rtB : Ss := (.cons (.ret (.blt .tup (.cons (.call 3 (.cons (.spl (.var 0) ",") (.cons (.tup (.cons (.str "number") (.cons (.str "number") (.cons (.str "number") .nil)))) .nil))) .nil))) .nil)
def Rdt (cl : Cl) (f : Nat) : Prop := ∀ (h : Hh) (s : S3), ok3 s -> ∃ g, cl f [.str (sw s)] h = .ok (sd3 s) (h ++ g)
theorem rdt_ok (hr : Rds cl 3) {h : Hh} {s : S3} (o : ok3 s) : ∃ g, (xss G cl W rtB [some (.str (sw s))] h).bind endD = .ok (sd3 s) (h ++ g) := by
  have sp : Txt.split (sw s) cmS = [nt s.1, nt s.2.1, nt s.2.2] := by
    have := split_join (c := 44) (ws := [nt s.1, nt s.2.1, nt s.2.2]) (by simp) (fun w hw => by
      simp only [List.mem_cons, List.not_mem_nil, or_false] at hw
      rcases hw with rfl | rfl | rfl
      · exact nt_free o.1 (.inr rfl)
      · exact nt_free o.2.1 (.inr rfl)
      · exact nt_free o.2.2 (.inr rfl))
    rw [tj] at this
    exact this
  let ks : List Wk := [.inr s.1, .inr s.2.1, .inr s.2.2]
  have c1 : ev G cl (.spl (.var 0) ",") [some (.str (sw s))] h = .ok (.ref h.length) (h ++ [.lst (ks.map fun x => D.str x.w)]) := by
    rw [evSpl, evV (x := .str (sw s)) rfl, bindOk]
    show (if (sw s).length <= 100000 /\ (1 : Nat) = 1 then Rs.ok (D.ref h.length) (h ++ [.lst ((Txt.split (sw s) cmS).map D.str)]) else .bad) = _
    rw [if_pos ⟨Nat.le_trans (sw_len o) (by decide), rfl⟩, sp]; rfl
  obtain ⟨g, e⟩ := hr (h ++ [.lst (ks.map fun x => D.str x.w)]) h.length ks (lstAt_last _ _) (by show 3 <= 1000; decide) (fun x hx => by
    simp only [ks, List.mem_cons, List.not_mem_nil, or_false] at hx
    rcases hx with rfl | rfl | rfl
    · exact o.1
    · exact o.2.1
    · exact o.2.2)
  have c2 : ev G cl (.tup (.cons (.str "number") (.cons (.str "number") (.cons (.str "number") .nil)))) [some (.str (sw s))] (h ++ [.lst (ks.map fun x => D.str x.w)]) = .ok (.tup (ks.map fun x => D.str x.k)) (h ++ [.lst (ks.map fun x => D.str x.w)]) := by
    simp [ks, Wk.k]
  have c3 := evCl (evs2 c1 c2) e
  refine ⟨[.lst (ks.map fun x => D.str x.w)] ++ .lst (ks.map Wk.v) :: g, ?_⟩
  rw [xssRt (xsRetV (evBl1 (evs1 c3) (tup_at (lstAt_mid ..)))), <- List.append_assoc]
  rfl
theorem evC_call {α : Type} {it : Es} {e : E} {t : Tg} {N : List Str} {cap : List Nat} {r : Ev} {h h1 : Hh} {n : Nat} {l : List α} (φ : α -> D) (F : Ev -> Prop) (v : α -> D) (hi : evs G cl it r h = .ok [.ref n] h1) (hl : lstAt h1 n = some (l.map φ)) (hm : l.length <= 1000) (hF : F (blockE N cap r))
    (hb : ∀ d ∈ l, ∀ r h, F r -> ∃ r1 g, setT t (φ d) r = some r1 /\ F r1 /\ ev G cl e r1 h = .ok (v d) (h ++ g)) : ∃ gb, ev G cl (.comp t .sq it .nil e N cap) r h = .ok (.ref h1.length) (h1 ++ .lst (l.map v) :: gb) := by
  obtain ⟨gb, q⟩ := evC_lst (cs := .nil) (e := e) (t := t) (N := N) (cap := cap) φ F (fun _ => true) v hi hl hm hF fun d hd => ⟨fun r ys gb hr => by
    obtain ⟨r1, g, e1, f1, e2⟩ := hb d hd r (h1 ++ .lst ys :: gb) hr
    refine ⟨r1, [], e1, by rw [evtNil, List.append_nil], f1, fun _ => ⟨g, ?_⟩⟩
    rw [List.append_nil, e2, List.append_assoc]; rfl⟩
  rw [List.filter_eq_self.mpr (fun _ _ => rfl)] at q
  exact ⟨gb, q⟩
abbrev rpB : Ss := (.cons (.asgL [1, 2, 3, 4] (.call 3 (.cons (.slU (.var 0) (.int 4)) (.cons (.tup (.cons (.str "name") (.cons (.str "number") (.cons (.str "number") (.cons (.str "number") .nil))))) .nil)))) (.cons (.ret (.tup (.cons (.var 1) (.cons (.var 2) (.cons (.var 3) (.cons (.var 4) (.cons (.blt .tup (.cons (.comp (.nm 0) .sq (.cons (.slL (.var 0) (.int 4)) .nil) .nil (.call 4 (.cons (.var 0) .nil)) ["word"] []) .nil)) .nil))))))) .nil))
def Rdp (cl : Cl) (f : Nat) : Prop := ∀ (h : Hh) (n : Nat) (nm : Str) (w t l : Int) (S : List S3), (Dd.put nm w t l S).ok -> lstAt h n = some ((Dd.put nm w t l S).rs.map D.str) -> ∃ g, cl f [.ref n] h = .ok (.tup [.str nm, .int w, .int t, .int l, .tup (S.map sd3)]) (h ++ g)
theorem rdp_ok (hr : Rds cl 3) (ht : Rdt cl 4) {h : Hh} {n : Nat} {nm : Str} {w t l : Int} {S : List S3} (o : (Dd.put nm w t l S).ok) (hl : lstAt h n = some ((Dd.put nm w t l S).rs.map D.str)) : ∃ g, (xss G cl W rpB [some (.ref n), none, none, none, none] h).bind endD = .ok (.tup [.str nm, .int w, .int t, .int l, .tup (S.map sd3)]) (h ++ g) := by
  obtain ⟨o1, o2, o3, o4, o5, o6⟩ := o
  let ks : List Wk := [.inl nm, .inr w, .inr t, .inr l]
  have c1 : ev G cl (.slU (.var 0) (.int 4)) [some (.ref n), none, none, none, none] h = .ok (.ref h.length) (h ++ [.lst (ks.map fun x => D.str x.w)]) := by
    rw [evSlU', evV (x := .ref n) rfl, bindOk, evInt, bindOk, slU_at hl (by decide)]
    rfl
  obtain ⟨g, e⟩ := hr (h ++ [.lst (ks.map fun x => D.str x.w)]) h.length ks (lstAt_last _ _) (by show 4 <= 1000; decide) (fun x hx => by
    simp only [ks, List.mem_cons, List.not_mem_nil, or_false] at hx
    rcases hx with rfl | rfl | rfl | rfl
    · exact o1
    · exact o2
    · exact o3
    · exact o4)
  have c2 : ev G cl (.tup (.cons (.str "name") (.cons (.str "number") (.cons (.str "number") (.cons (.str "number") .nil))))) [some (.ref n), none, none, none, none] (h ++ [.lst (ks.map fun x => D.str x.w)]) = .ok (.tup (ks.map fun x => D.str x.k)) (h ++ [.lst (ks.map fun x => D.str x.w)]) := by
    simp [ks, Wk.k]
  have c3 := evCl (evs2 c1 c2) e
  have la := lstAt_mid (h ++ [.lst (ks.map fun x => D.str x.w)]) g (ks.map Wk.v)
  have lb : lstAt (h ++ [.lst (ks.map fun x => D.str x.w)] ++ .lst (ks.map Wk.v) :: g) n = some ((Dd.put nm w t l S).rs.map D.str) := by
    rw [List.append_assoc]; exact lstAt_app _ _ hl
  have eh : ∃ g', h ++ [.lst (ks.map fun x => D.str x.w)] ++ .lst (ks.map Wk.v) :: g = h ++ g' := ⟨_, List.append_assoc ..⟩
  generalize h ++ [.lst (ks.map fun x => D.str x.w)] ++ .lst (ks.map Wk.v) :: g = h2 at c3 la lb eh
  obtain ⟨g', rfl⟩ := eh
  have s1 : xs G cl W (.asgL [1, 2, 3, 4] (.call 3 (.cons (.slU (.var 0) (.int 4)) (.cons (.tup (.cons (.str "name") (.cons (.str "number") (.cons (.str "number") (.cons (.str "number") .nil))))) .nil)))) [some (.ref n), none, none, none, none] h = .ok (.nx [some (.ref n), some (.str nm), some (.int w), some (.int t), some (.int l)]) (h ++ g') := by
    rw [xsAsgL, c3, nxOk, bindOk]
    simp only [la]
    rfl
  have c4 : ev G cl (.slL (.var 0) (.int 4)) [some (.ref n), some (.str nm), some (.int w), some (.int t), some (.int l)] (h ++ g') = .ok (.ref (h ++ g').length) (h ++ g' ++ [.lst (S.map fun s => D.str (sw s))]) := by
    rw [evSlL', evV (x := .ref n) rfl, bindOk, evInt, bindOk, slL_at lb (by decide)]
    simp [Dd.rs]
  obtain ⟨g3, c5⟩ := evC_call (G := G) (cl := cl) (t := .nm 0) (it := .cons (.slL (.var 0) (.int 4)) .nil) (e := .call 4 (.cons (.var 0) .nil)) (N := ["word"]) (cap := []) (fun s : S3 => D.str (sw s)) (fun r => ∃ a, r = [a]) sd3 (evs1 c4) (lstAt_last _ _) (by omega) ⟨_, rfl⟩ (by
    rintro s hs r h ⟨a, rfl⟩
    obtain ⟨g, e⟩ := ht h s (o6 s hs)
    exact ⟨[some (.str (sw s))], g, rfl, ⟨_, rfl⟩, evC1 rfl e⟩)
  have c6 := evBl1 (f := .tup) (evs1 c5) (tup_at (lstAt_mid ..))
  refine ⟨g' ++ ([.lst (S.map fun s => D.str (sw s))] ++ .lst (S.map sd3) :: g3), ?_⟩
  rw [xssNx s1, xssRt (d := .tup [.str nm, .int w, .int t, .int l, .tup (S.map sd3)]) (h' := h ++ g' ++ [.lst (S.map fun s => D.str (sw s))] ++ .lst (S.map sd3) :: g3) (by
    rw [xsRet, evTup, evsCons, evV (x := .str nm) rfl, bindOk, evsCons, evV (x := .int w) rfl, bindOk, evsCons, evV (x := .int t) rfl, bindOk, evsCons, evV (x := .int l) rfl, bindOk, evsCons, c6, bindOk, evsNil]
    rfl), <- List.append_assoc, <- List.append_assoc]
  rfl
abbrev rdB : Ss := (.cons (.asgS 1 2 (.spl (.var 0) " ")) (.cons (.iff (.cmp .eq (.var 1) (.str "put")) (.cons (.ret (.bin .add (.tup (.cons (.str "put") .nil)) (.call 5 (.cons (.var 2) .nil)))) .nil) .nil) (.cons (.iff (.cmp .eq (.var 1) (.str "drop")) (.cons (.ret (.tup (.cons (.str "drop") (.cons (.ix (.call 3 (.cons (.var 2) (.cons (.tup (.cons (.str "name") .nil)) .nil))) (.int 0)) .nil)))) .nil) .nil) (.cons (.iff (.cmp .eq (.var 1) (.str "tie")) (.cons (.asgL [3, 4, 5, 6, 7] (.call 3 (.cons (.var 2) (.cons (.tup (.cons (.str "name") (.cons (.str "name") (.cons (.str "number") (.cons (.str "number") (.cons (.str "number") .nil)))))) .nil)))) (.cons (.ret (.tup (.cons (.str "tie") (.cons (.var 3) (.cons (.var 4) (.cons (.tup (.cons (.var 5) (.cons (.var 6) (.cons (.var 7) .nil)))) .nil)))))) .nil)) .nil) (.cons (.iff (.cmp .eq (.var 1) (.str "untie")) (.cons (.ret (.tup (.cons (.str "untie") (.cons (.ix (.call 3 (.cons (.var 2) (.cons (.tup (.cons (.str "number") .nil)) .nil))) (.int 0)) .nil)))) .nil) .nil) (.cons .never .nil))))))
theorem iffNo {i : Nat} {z : Str} {x : Str} {A Z : Ss} {r : Ev} {h : Hh} (hr : r[i]? = some (some (.str z))) (ne : z ≠ x) : xss G cl W (.cons (.iff (.cmp .eq (.var i) (.str x)) A .nil) Z) r h = xss G cl W Z r h := xssNx (by
  rw [xsIffF (by rw [evCmp2 (evV hr) (evStr ..) (cEqS ..), decide_eq_false ne]), xssNil])
theorem iffYes {i : Nat} {x : Str} {A Z : Ss} {r : Ev} {d : D} {h h' : Hh} (hr : r[i]? = some (some (.str x))) (e : xss G cl W A r h = .ok (.rt d) h') : xss G cl W (.cons (.iff (.cmp .eq (.var i) (.str x)) A .nil) Z) r h = .ok (.rt d) h' := xssRt (by
  rw [xsIffT (by rw [evCmp2 (evV hr) (evStr ..) (cEqS ..), decide_eq_true rfl]), e])
def Rdd (cl : Cl) (f : Nat) : Prop := ∀ (h : Hh) (d : Dd), d.ok -> ∃ g, cl f [.str d.tx] h = .ok d.d (h ++ g)
theorem rdd_ok (hr : Rds cl 3) (hp : Rdp cl 5) {h : Hh} {d : Dd} (o : d.ok) : ∃ g, (xss G cl W rdB [some (.str d.tx), none, none, none, none, none, none, none] h).bind endD = .ok d.d (h ++ g) := by
  have sp : Txt.split d.tx bkS = d.hd :: d.rs := by
    have := split_join (c := 32) (ws := d.hd :: d.rs) (by simp) (rs_free o)
    rw [tj] at this
    exact this
  have rl := (rs_len o).1
  have s1 : xs G cl W (.asgS 1 2 (.spl (.var 0) " ")) [some (.str d.tx), none, none, none, none, none, none, none] h = .ok (.nx [some (.str d.tx), some (.str d.hd), some (.ref (h.length + 1)), none, none, none, none, none]) (h ++ [.lst ((d.hd :: d.rs).map D.str)] ++ [.lst (d.rs.map D.str)]) := by
    have c1 : ev G cl (.spl (.var 0) " ") [some (.str d.tx), none, none, none, none, none, none, none] h = .ok (.ref h.length) (h ++ [.lst ((d.hd :: d.rs).map D.str)]) := by
      rw [evSpl, evV (x := .str d.tx) rfl, bindOk]
      show (if d.tx.length <= 100000 /\ (1 : Nat) = 1 then Rs.ok (D.ref h.length) (h ++ [.lst ((Txt.split d.tx bkS).map D.str)]) else .bad) = _
      rw [if_pos ⟨Nat.le_trans (tx_len o) (by decide), rfl⟩, sp]
    rw [xsAsgS, c1, nxOk, bindOk]
    simp only [sRef, lstAt_last, List.map_cons, List.length_map, show d.rs.length <= 1000 by omega, if_true]
    simp
  have l2 : lstAt (h ++ [.lst ((d.hd :: d.rs).map D.str)] ++ [.lst (d.rs.map D.str)]) (h.length + 1) = some (d.rs.map D.str) := by
    have := lstAt_last (h ++ [.lst ((d.hd :: d.rs).map D.str)]) (d.rs.map D.str)
    rwa [List.length_append, List.length_singleton] at this
  have eh : ∃ g', h ++ [.lst ((d.hd :: d.rs).map D.str)] ++ [.lst (d.rs.map D.str)] = h ++ g' := ⟨_, List.append_assoc ..⟩
  rw [xssNx s1]
  generalize h ++ [.lst ((d.hd :: d.rs).map D.str)] ++ [.lst (d.rs.map D.str)] = h2 at l2 eh ⊢
  obtain ⟨g', rfl⟩ := eh
  have one : ∀ (x : Wk) (kd tg : Str), x.ok -> x.k = kd -> lstAt (h ++ g') (h.length + 1) = some [.str x.w] -> ∀ r : Ev, r[2]? = some (some (.ref (h.length + 1))) -> ∃ g, xss G cl W (.cons (.ret (.tup (.cons (.str tg) (.cons (.ix (.call 3 (.cons (.var 2) (.cons (.tup (.cons (.str kd) .nil)) .nil))) (.int 0)) .nil)))) .nil) r (h ++ g') = .ok (.rt (.tup [.str tg, x.v])) (h ++ g' ++ g) := fun x kd tg ox ek el r hr2 => by
    obtain ⟨g, e⟩ := hr (h ++ g') (h.length + 1) [x] el (by show 1 <= 1000; decide) (fun y hy => by rw [List.mem_singleton.mp hy]; exact ox)
    refine ⟨.lst ([x].map Wk.v) :: g, ?_⟩
    have c2 : ev G cl (.tup (.cons (.str kd) .nil)) r (h ++ g') = .ok (.tup ([x].map fun x => D.str x.k)) (h ++ g') := by
      rw [<- ek]; simp
    have c3 := evCl (evs2 (evV hr2) c2) e
    have c4 : ev G cl (.ix (.call 3 (.cons (.var 2) (.cons (.tup (.cons (.str kd) .nil)) .nil))) (.int 0)) r (h ++ g') = .ok x.v (h ++ g' ++ .lst ([x].map Wk.v) :: g) := by
      rw [evIx, c3, bindOk, evInt, bindOk, iRef _ _ (lstAt_mid ..)]
      rfl
    exact xssRt (xsRetV (evTup2 (evStr ..) c4))
  cases d with
  | drop nm =>
    obtain ⟨g, e⟩ := one (.inl nm) "name" "drop" o rfl l2 [some (.str (Dd.drop nm).tx), some (.str "drop"), some (.ref (h.length + 1)), none, none, none, none, none] rfl
    refine ⟨g' ++ g, ?_⟩
    show (xss G cl W _ [some (.str (Dd.drop nm).tx), some (.str "drop"), some (.ref (h.length + 1)), none, none, none, none, none] (h ++ g')).bind endD = _
    rw [iffNo (i := 1) (z := "drop") rfl (by decide), iffYes (i := 1) rfl e, <- List.append_assoc]
    rfl
  | untie i =>
    obtain ⟨g, e⟩ := one (.inr i) "number" "untie" o rfl l2 [some (.str (Dd.untie i).tx), some (.str "untie"), some (.ref (h.length + 1)), none, none, none, none, none] rfl
    refine ⟨g' ++ g, ?_⟩
    show (xss G cl W _ [some (.str (Dd.untie i).tx), some (.str "untie"), some (.ref (h.length + 1)), none, none, none, none, none] (h ++ g')).bind endD = _
    rw [iffNo (i := 1) (z := "untie") rfl (by decide), iffNo (i := 1) (z := "untie") rfl (by decide), iffNo (i := 1) (z := "untie") rfl (by decide), iffYes (i := 1) rfl e, <- List.append_assoc]
    rfl
  | tie a b m =>
    let ks : List Wk := [.inl a, .inl b, .inr m.1, .inr m.2.1, .inr m.2.2]
    obtain ⟨g, e⟩ := hr (h ++ g') (h.length + 1) ks l2 (by show 5 <= 1000; decide) (fun x hx => by
      simp only [ks, List.mem_cons, List.not_mem_nil, or_false] at hx
      rcases hx with rfl | rfl | rfl | rfl | rfl
      · exact o.1
      · exact o.2.1
      · exact o.2.2.1
      · exact o.2.2.2.1
      · exact o.2.2.2.2)
    have c2 : ∀ r, ev G cl (.tup (.cons (.str "name") (.cons (.str "name") (.cons (.str "number") (.cons (.str "number") (.cons (.str "number") .nil)))))) r (h ++ g') = .ok (.tup (ks.map fun x => D.str x.k)) (h ++ g') := fun r => by simp [ks, Wk.k]
    have la := lstAt_mid (h ++ g') g (ks.map Wk.v)
    have s2 : xs G cl W (.asgL [3, 4, 5, 6, 7] (.call 3 (.cons (.var 2) (.cons (.tup (.cons (.str "name") (.cons (.str "name") (.cons (.str "number") (.cons (.str "number") (.cons (.str "number") .nil)))))) .nil)))) [some (.str (Dd.tie a b m).tx), some (.str "tie"), some (.ref (h.length + 1)), none, none, none, none, none] (h ++ g') = .ok (.nx [some (.str (Dd.tie a b m).tx), some (.str "tie"), some (.ref (h.length + 1)), some (.str a), some (.str b), some (.int m.1), some (.int m.2.1), some (.int m.2.2)]) (h ++ g' ++ .lst (ks.map Wk.v) :: g) := by
      rw [xsAsgL, evCl (evs2 (evV rfl) (c2 _)) e, nxOk, bindOk]
      simp only [la]
      rfl
    refine ⟨g' ++ .lst (ks.map Wk.v) :: g, ?_⟩
    show (xss G cl W _ [some (.str (Dd.tie a b m).tx), some (.str "tie"), some (.ref (h.length + 1)), none, none, none, none, none] (h ++ g')).bind endD = _
    rw [iffNo (i := 1) (z := "tie") rfl (by decide), iffNo (i := 1) (z := "tie") rfl (by decide), iffYes (i := 1) (d := (Dd.tie a b m).d) (h' := h ++ g' ++ .lst (ks.map Wk.v) :: g) rfl (by
      rw [xssNx s2]
      exact xssRt (by
        rw [xsRet, evTup, evsCons, evStr, bindOk, evsCons, evV (x := .str a) rfl, bindOk, evsCons, evV (x := .str b) rfl, bindOk, evsCons, evTup, evsCons, evV (x := .int m.1) rfl, bindOk, evsCons, evV (x := .int m.2.1) rfl, bindOk, evsCons, evV (x := .int m.2.2) rfl, bindOk, evsNil]
        rfl)), <- List.append_assoc]
    rfl
  | put nm w t l S =>
    obtain ⟨g, e⟩ := hp (h ++ g') (h.length + 1) nm w t l S o l2
    refine ⟨g' ++ g, ?_⟩
    show (xss G cl W _ [some (.str (Dd.put nm w t l S).tx), some (.str "put"), some (.ref (h.length + 1)), none, none, none, none, none] (h ++ g')).bind endD = _
    rw [iffYes (i := 1) (d := (Dd.put nm w t l S).d) (h' := h ++ g' ++ g) rfl (xssRt (xsRetV (by
      rw [evBin, evTup, evsCons, evStr, bindOk, evsNil]
      show (ev G cl (.call 5 (.cons (.var 2) .nil)) _ _).bind _ = _
      rw [evC1 (i := 2) rfl e, bindOk]
      rfl))), <- List.append_assoc]
    rfl
end
end Ng
end
section
namespace Ng
open PySem L2
section
variable {G : Gs} {cl : Cl} {W : Nat}
theorem evC_tupC {α : Type} {it : Es} {e : E} {t : Tg} {N : List Str} {cap : List Nat} {r : Ev} {h h1 : Hh} {l : List α} (φ : α -> D) (F : Ev -> Prop) (v : α -> D) (hi : evs G cl it r h = .ok [.tup (l.map φ)] h1) (hm : l.length <= 1000) (hF : F (blockE N cap r))
    (hb : ∀ d ∈ l, ∀ r h, F r -> ∃ r1, setT t (φ d) r = some r1 /\ F r1 /\ ev G cl e r1 h = .ok (v d) h) : ∃ gb, ev G cl (.comp t .sq it .nil e N cap) r h = .ok (.ref h1.length) (h1 ++ .lst (l.map v) :: gb) := by
  obtain ⟨gb, q⟩ := compS_gen (φ := φ) (t := t) (cs := evt G cl .nil) (f := ev G cl e) (h0 := h1) (F := F) (p := fun _ => true) (g := v) l (fun d hd => ⟨fun r ys gb hr => by
    obtain ⟨r1, e1, f1, e2⟩ := hb d hd r (h1 ++ .lst ys :: gb) hr
    exact ⟨r1, [], e1, by rw [evtNil, List.append_nil], f1, fun _ => ⟨[], by rw [List.append_nil, List.append_nil]; exact e2⟩⟩⟩) (blockE N cap r) [] [] hF (by simp; omega)
  rw [List.filter_eq_self.mpr (fun _ _ => rfl), List.nil_append] at q
  exact ⟨gb, evComp_tup hi q⟩
theorem add_lst {h : Hh} {m n : Nat} {a b : List D} (e1 : h[m]? = some (.lst a)) (e2 : h[n]? = some (.lst b)) (hl : a.length + b.length <= 1000) : binD .add (.ref m) (.ref n) h = .ok (.ref h.length) (h ++ [.lst (a ++ b)]) := by
  unfold binD
  simp only [e1, e2, hl, if_true]
abbrev ntB : Ss := (.cons (.ret (.join " " (.comp (.nm 0) .sq (.cons (.var 0) .nil) .nil (.sof (.var 0)) ["number"] []))) .nil)
def Nut (cl : Cl) (f : Nat) : Prop := ∀ (h : Hh) (l : List Int), l.length <= 10 -> (∀ i ∈ l, Sm i) -> (∀ n, lstAt h n = some (l.map D.int) -> ∃ g, cl f [.ref n] h = .ok (.str (Str.join bkS (l.map nt))) (h ++ g)) /\ ∃ g, cl f [.tup (l.map D.int)] h = .ok (.str (Str.join bkS (l.map nt))) (h ++ g)
theorem nums_sum {l : List Int} (hl : l.length <= 10) (ho : ∀ i ∈ l, Sm i) : ((l.map nt).map (·.length)).sum + (l.map nt).length * bkS.length <= 2000 := by
  have := sum_le (B := 101) (l.map nt) fun x hx => by obtain ⟨i, hi, rfl⟩ := List.mem_map.mp hx; exact (nt_len (ho i hi)).2
  have e : bkS.length = 1 := rfl
  rw [List.length_map] at this ⊢
  rw [e]
  have : l.length * 101 <= 10 * 101 := Nat.mul_le_mul hl (Nat.le_refl _)
  omega
theorem nut_ok {h : Hh} {l : List Int} (hl : l.length <= 10) (ho : ∀ i ∈ l, Sm i) : (∀ n, lstAt h n = some (l.map D.int) -> ∃ g, (xss G cl W ntB [some (.ref n)] h).bind endD = .ok (.str (Str.join bkS (l.map nt))) (h ++ g)) /\ ∃ g, (xss G cl W ntB [some (.tup (l.map D.int))] h).bind endD = .ok (.str (Str.join bkS (l.map nt))) (h ++ g) := by
  have go : ∀ (d : D) (gb : Hh), ev G cl (.comp (.nm 0) .sq (.cons (.var 0) .nil) .nil (.sof (.var 0)) ["number"] []) [some d] h = .ok (.ref h.length) (h ++ .lst (l.map fun i => D.str (nt i)) :: gb) -> ∃ g, (xss G cl W ntB [some d] h).bind endD = .ok (.str (Str.join bkS (l.map nt))) (h ++ g) := fun d gb e => by
    refine ⟨.lst (l.map fun i => D.str (nt i)) :: gb, ?_⟩
    have j := join_at (s := bkS) (l := l.map nt) (h := h ++ .lst (l.map fun i => D.str (nt i)) :: gb) (n := h.length) (by rw [lstAt_mid, List.map_map]; rfl) (Nat.le_trans (nums_sum hl ho) (by decide))
    rw [tj] at j
    rw [xssRt (xsRetV (d := .str (Str.join bkS (l.map nt))) (h' := h ++ .lst (l.map fun i => D.str (nt i)) :: gb) (by rw [evJoin', e, bindOk]; exact j))]
    rfl
  have it : ∀ d ∈ l, ∀ (r : Ev) (h : Hh), (∃ a, r = [a]) -> ∃ r1, setT (.nm 0) (D.int d) r = some r1 /\ (∃ a, r1 = [a]) /\ ev G cl (.sof (.var 0)) r1 h = .ok (D.str (nt d)) h := by
    rintro d hd r h ⟨a, rfl⟩
    exact ⟨[some (.int d)], rfl, ⟨_, rfl⟩, by rw [evSof, evV (x := .int d) rfl, bindOk, fmtI h (ho d hd)]⟩
  constructor
  · intro n e
    obtain ⟨gb, q⟩ := evC_map (G := G) (cl := cl) (t := .nm 0) (it := .cons (.var 0) .nil) (e := .sof (.var 0)) (N := ["number"]) (cap := []) (r := [some (.ref n)]) D.int (fun r => ∃ a, r = [a]) (fun i => D.str (nt i)) (evs1 (evV rfl)) e (by omega) ⟨_, rfl⟩ it
    exact go _ gb q
  · obtain ⟨gb, q⟩ := evC_tupC (G := G) (cl := cl) (t := .nm 0) (it := .cons (.var 0) .nil) (e := .sof (.var 0)) (N := ["number"]) (cap := []) (r := [some (.tup (l.map D.int))]) (h := h) D.int (fun r => ∃ a, r = [a]) (fun i => D.str (nt i)) (evs1 (evV rfl)) (by omega) ⟨_, rfl⟩ it
    exact go _ gb q
theorem fst_ok {ds : List D} {xs : List Str} (h : Hh) (e : strsD ds = some xs) (hz : (xs.map (·.length)).sum <= 100000) : fstD ds h = .ok (.str (catS xs)) h := by
  unfold fstD
  rw [e]
  exact if_pos hz
abbrev ptB2 : Ss := (.cons (.asc 5 (.comp (.tp [0, 1, 2]) .sq (.cons (.var 4) .nil) .nil (.fst (.cons (.fmt (.var 0)) (.cons (.str ",") (.cons (.fmt (.var 1)) (.cons (.str ",") (.cons (.fmt (.var 2)) .nil)))))) ["x", "y", "bright"] [])) (.cons (.ret (.join " " (.bin .add (.lst (.cons (.var 0) (.cons (.call 6 (.cons (.lst (.cons (.var 1) (.cons (.var 2) (.cons (.var 3) .nil)))) .nil)) .nil))) (.var 5)))) .nil))
theorem sw_cat (s : S3) : catS [nt s.1, cmS, nt s.2.1, cmS, nt s.2.2] = sw s := by
  show nt s.1 ++ (cmS ++ (nt s.2.1 ++ (cmS ++ (nt s.2.2 ++ Str.empty)))) = nt s.1 ++ cmS ++ (nt s.2.1 ++ cmS ++ nt s.2.2)
  rw [Str.append_empty, Str.append_assoc, Str.append_assoc]
theorem star_fst {s : S3} (o : ok3 s) (h : Hh) : ev G cl (.fst (.cons (.fmt (.var 0)) (.cons (.str ",") (.cons (.fmt (.var 1)) (.cons (.str ",") (.cons (.fmt (.var 2)) .nil)))))) [some (.int s.1), some (.int s.2.1), some (.int s.2.2)] h = .ok (.str (sw s)) h := by
  have f : ∀ {i : Nat} {z : Int} {r : Ev}, r[i]? = some (some (.int z)) -> Sm z -> ev G cl (.fmt (.var i)) r h = .ok (.str (nt z)) h := fun hr sz => by rw [evFmt, evV hr, bindOk, fmtI h sz]
  rw [evFst, evsCons, f (z := s.1) rfl o.1, bindOk, evsCons, evStr, bindOk, evsCons, f (z := s.2.1) rfl o.2.1, bindOk, evsCons, evStr, bindOk, evsCons, f (z := s.2.2) rfl o.2.2, bindOk, evsNil]
  show fstD [.str (nt s.1), .str cmS, .str (nt s.2.1), .str cmS, .str (nt s.2.2)] h = _
  rw [fst_ok h rfl, sw_cat]
  have a := (nt_len o.1).2
  have b := (nt_len o.2.1).2
  have c := (nt_len o.2.2).2
  have e : cmS.length = 1 := rfl
  simp only [List.map_cons, List.map_nil, List.sum_cons, List.sum_nil, e]
  omega
def Plt (cl : Cl) (f : Nat) : Prop := ∀ (h : Hh) (nm : Str) (w t l : Int) (S : List S3), (Dd.put nm w t l S).ok -> ∃ g, cl f [.str nm, .int w, .int t, .int l, .tup (S.map sd3)] h = .ok (.str (Str.join bkS (Dd.put nm w t l S).rs)) (h ++ g)
theorem join_mid (nm a b c : Str) (S : List Str) : Str.join bkS ([nm, Str.join bkS [a, b, c]] ++ S) = Str.join bkS ([nm, a, b, c] ++ S) := by
  cases S with
  | nil => rfl
  | cons x S =>
    show nm ++ bkS ++ ((a ++ bkS ++ (b ++ bkS ++ c)) ++ bkS ++ Str.join bkS (x :: S)) = nm ++ bkS ++ (a ++ bkS ++ (b ++ bkS ++ (c ++ bkS ++ Str.join bkS (x :: S))))
    simp only [Str.append_assoc]
theorem plt_ok (hn : Nut cl 6) {h : Hh} {nm : Str} {w t l : Int} {S : List S3} (o : (Dd.put nm w t l S).ok) : ∃ g, (xss G cl W ptB2 [some (.str nm), some (.int w), some (.int t), some (.int l), some (.tup (S.map sd3)), none] h).bind endD = .ok (.str (Str.join bkS (Dd.put nm w t l S).rs)) (h ++ g) := by
  have o' := o
  obtain ⟨o1, o2, o3, o4, o5, o6⟩ := o
  obtain ⟨g1, q1⟩ := evC_tupC (G := G) (cl := cl) (t := .tp [0, 1, 2]) (it := .cons (.var 4) .nil) (e := .fst (.cons (.fmt (.var 0)) (.cons (.str ",") (.cons (.fmt (.var 1)) (.cons (.str ",") (.cons (.fmt (.var 2)) .nil)))))) (N := ["x", "y", "bright"]) (cap := []) (r := [some (.str nm), some (.int w), some (.int t), some (.int l), some (.tup (S.map sd3)), none]) (h := h) sd3 (fun r => ∃ a b c, r = [a, b, c]) (fun s => D.str (sw s)) (evs1 (evV rfl)) (by omega) ⟨_, _, _, rfl⟩ (by
    rintro s hs r h ⟨a, b, c, rfl⟩
    exact ⟨[some (.int s.1), some (.int s.2.1), some (.int s.2.2)], rfl, ⟨_, _, _, rfl⟩, star_fst (o6 s hs) h⟩)
  have hs : (h ++ .lst (S.map fun s => D.str (sw s)) :: g1)[h.length]? = some (.lst (S.map fun s => D.str (sw s))) := get_mid ..
  have eh : ∃ g', h ++ .lst (S.map fun s => D.str (sw s)) :: g1 = h ++ g' := ⟨_, rfl⟩
  rw [xssNx (r' := [some (.str nm), some (.int w), some (.int t), some (.int l), some (.tup (S.map sd3)), some (.ref h.length)]) (by rw [xsAsc, q1]; rfl)]
  generalize h ++ .lst (S.map fun s => D.str (sw s)) :: g1 = h2 at hs eh ⊢
  obtain ⟨g', rfl⟩ := eh
  have c1 : ∀ r : Ev, r[1]? = some (some (.int w)) -> r[2]? = some (some (.int t)) -> r[3]? = some (some (.int l)) -> ev G cl (.lst (.cons (.var 1) (.cons (.var 2) (.cons (.var 3) .nil)))) r (h ++ g') = .ok (.ref (h ++ g').length) (h ++ g' ++ [.lst ([w, t, l].map D.int)]) := fun r r1 r2 r3 => by
    rw [evLst, evsCons, evV r1, bindOk, evsCons, evV r2, bindOk, evsCons, evV r3, bindOk, evsNil]; rfl
  obtain ⟨g2, e2⟩ := (hn (h ++ g' ++ [.lst ([w, t, l].map D.int)]) [w, t, l] (by show 3 <= 10; decide) (fun i hi => by
    simp only [List.mem_cons, List.not_mem_nil, or_false] at hi
    rcases hi with rfl | rfl | rfl
    · exact o2
    · exact o3
    · exact o4)).1 (h ++ g').length (lstAt_last _ _)
  have kp : (h ++ g' ++ [.lst ([w, t, l].map D.int)] ++ g2)[h.length]? = some (.lst (S.map fun s => D.str (sw s))) := Kp.app _ _ _ _ (Kp.app _ _ _ _ hs)
  have eh : ∃ g3, h ++ g' ++ [.lst ([w, t, l].map D.int)] ++ g2 = h ++ g3 := ⟨_, by rw [List.append_assoc, List.append_assoc]⟩
  have c2 := evCl (G := G) (f := 6) (evs1 (c1 [some (.str nm), some (.int w), some (.int t), some (.int l), some (.tup (S.map sd3)), some (.ref h.length)] rfl rfl rfl)) e2
  generalize h ++ g' ++ [.lst ([w, t, l].map D.int)] ++ g2 = h3 at kp eh c2
  obtain ⟨g3, rfl⟩ := eh
  let L1 : List Str := [nm, Str.join bkS ([w, t, l].map nt)]
  have c3 : ev G cl (.lst (.cons (.var 0) (.cons (.call 6 (.cons (.lst (.cons (.var 1) (.cons (.var 2) (.cons (.var 3) .nil)))) .nil)) .nil))) [some (.str nm), some (.int w), some (.int t), some (.int l), some (.tup (S.map sd3)), some (.ref h.length)] (h ++ g') = .ok (.ref (h ++ g3).length) (h ++ g3 ++ [O.lst (L1.map D.str)]) := by
    rw [evLst, evsCons, evV (x := .str nm) rfl, bindOk, evsCons, c2, bindOk, evsNil]; rfl
  have c4 : binD .add (.ref (h ++ g3).length) (.ref h.length) (h ++ g3 ++ [O.lst (L1.map D.str)]) = .ok (.ref (h ++ g3 ++ [O.lst (L1.map D.str)]).length) (h ++ g3 ++ [O.lst (L1.map D.str)] ++ [O.lst ((L1 ++ S.map sw).map D.str)]) := by
    rw [add_lst (get_last _ _) (Kp.app _ _ _ _ kp) (by rw [List.length_map, List.length_map]; show 2 + S.length <= 1000; omega), List.map_append, List.map_map]
    rfl
  have j := join_at (s := bkS) (l := L1 ++ S.map sw) (h := h ++ g3 ++ [O.lst (L1.map D.str)] ++ [O.lst ((L1 ++ S.map sw).map D.str)]) (n := (h ++ g3 ++ [O.lst (L1.map D.str)]).length) (lstAt_last _ _) (by
    have a := sum_le (B := 2012) (L1 ++ S.map sw) fun x hx => by
      rcases List.mem_append.mp hx with hx | hx
      · simp only [L1, List.mem_cons, List.not_mem_nil, or_false] at hx
        rcases hx with rfl | rfl
        · exact Nat.le_trans o1.hi (by decide)
        · exact Nat.le_trans (lenJ ..) (Nat.le_trans (nums_sum (l := [w, t, l]) (by show 3 <= 10; decide) (fun i hi => by
            simp only [List.mem_cons, List.not_mem_nil, or_false] at hi
            rcases hi with rfl | rfl | rfl
            · exact o2
            · exact o3
            · exact o4)) (by decide))
      · obtain ⟨s, hs, rfl⟩ := List.mem_map.mp hx
        exact Nat.le_trans (sw_len (o6 s hs)) (by decide)
    have ln : (L1 ++ S.map sw).length <= 12 := by rw [List.length_append, List.length_map]; show 2 + S.length <= 12; omega
    have e : bkS.length = 1 := rfl
    rw [e]
    have : (L1 ++ S.map sw).length * 2012 <= 12 * 2012 := Nat.mul_le_mul ln (Nat.le_refl _)
    omega)
  rw [tj] at j
  have ej : Str.join bkS (L1 ++ S.map sw) = Str.join bkS (Dd.put nm w t l S).rs := join_mid nm (nt w) (nt t) (nt l) (S.map sw)
  rw [ej] at j
  have eb : ev G cl (.bin .add (.lst (.cons (.var 0) (.cons (.call 6 (.cons (.lst (.cons (.var 1) (.cons (.var 2) (.cons (.var 3) .nil)))) .nil)) .nil))) (.var 5)) [some (.str nm), some (.int w), some (.int t), some (.int l), some (.tup (S.map sd3)), some (.ref h.length)] (h ++ g') = .ok (.ref (h ++ g3 ++ [O.lst (L1.map D.str)]).length) (h ++ g3 ++ [O.lst (L1.map D.str)] ++ [O.lst ((L1 ++ S.map sw).map D.str)]) := by
    rw [evBin, c3, bindOk, evV (x := .ref h.length) rfl, bindOk]; exact c4
  refine ⟨g3 ++ ([O.lst (L1.map D.str)] ++ [O.lst ((L1 ++ S.map sw).map D.str)]), ?_⟩
  rw [xssRt (xsRetV (by rw [evJoin', eb, bindOk]; exact j)), <- List.append_assoc, <- List.append_assoc]
  rfl
abbrev dtB : Ss := (.cons (.asgS 1 2 (.var 0)) (.cons (.iff (.cmp .eq (.var 1) (.str "put")) (.cons (.asgL [3, 4, 5, 6, 7] (.var 2)) (.cons (.ret (.fst (.cons (.str "put ") (.cons (.fmt (.call 7 (.cons (.var 3) (.cons (.var 4) (.cons (.var 5) (.cons (.var 6) (.cons (.var 7) .nil))))))) .nil)))) .nil)) .nil) (.cons (.iff (.cmp .eq (.var 1) (.str "tie")) (.cons (.asgL [8, 9, 10] (.var 2)) (.cons (.ret (.fst (.cons (.str "tie ") (.cons (.fmt (.var 8)) (.cons (.str " ") (.cons (.fmt (.var 9)) (.cons (.str " ") (.cons (.fmt (.call 6 (.cons (.var 10) .nil))) .nil)))))))) .nil)) .nil) (.cons (.ret (.fst (.cons (.fmt (.var 1)) (.cons (.str " ") (.cons (.fmt (.ix (.var 2) (.int 0))) .nil))))) .nil))))
def Ddt (cl : Cl) (f : Nat) : Prop := ∀ (h : Hh) (d : Dd), d.ok -> ∃ g, cl f [d.d] h = .ok (.str d.tx) (h ++ g)
theorem fmtV {i : Nat} {x : Str} {r : Ev} {h : Hh} (hr : r[i]? = some (some (.str x))) (hz : x.length <= 100000) : ev G cl (.fmt (.var i)) r h = .ok (.str x) h := by rw [evFmt, evV hr, bindOk, fmtS h hz]
theorem eTie : (Str.ofString "tie ") = Str.ofString "tie" ++ bkS := by decide +kernel
theorem ePut : (Str.ofString "put ") = Str.ofString "put" ++ bkS := by decide +kernel
theorem eBk : (Str.ofString " ") = bkS := by decide +kernel
theorem fst2 (k x : Str) (h : Hh) (hk : k.length <= 10) (hx : x.length <= 1000) : fstD [.str k, .str " ", .str x] h = .ok (.str (Str.join bkS [k, x])) h := by
  have e1 : bkS.length = 1 := rfl
  rw [eBk, fst_ok h (xs := [k, bkS, x]) rfl (by simp only [List.map_cons, List.map_nil, List.sum_cons, List.sum_nil, e1]; omega)]
  have : catS [k, bkS, x] = k ++ bkS ++ x := by simp only [catS, Str.append_empty, Str.append_assoc]
  rw [this]; rfl
theorem fst6 (a b T : Str) (h : Hh) (ha : a.length <= 1000) (hb : b.length <= 1000) (hT : T.length <= 2000) : fstD [.str "tie ", .str a, .str " ", .str b, .str " ", .str T] h = .ok (.str (Str.ofString "tie" ++ bkS ++ (a ++ bkS ++ (b ++ bkS ++ T)))) h := by
  have e1 : bkS.length = 1 := rfl
  have e2 : (Str.ofString "tie" ++ bkS).length = 4 := by decide +kernel
  rw [eBk, eTie, fst_ok h (xs := [Str.ofString "tie" ++ bkS, a, bkS, b, bkS, T]) rfl (by simp only [List.map_cons, List.map_nil, List.sum_cons, List.sum_nil, e1, e2]; omega)]
  have : catS [Str.ofString "tie" ++ bkS, a, bkS, b, bkS, T] = Str.ofString "tie" ++ bkS ++ (a ++ bkS ++ (b ++ bkS ++ T)) := by simp only [catS, Str.append_empty, Str.append_assoc]
  rw [this]
theorem fstp (T : Str) (h : Hh) (hT : T.length <= 10000) : fstD [.str "put ", .str T] h = .ok (.str (Str.ofString "put" ++ bkS ++ T)) h := by
  have e2 : (Str.ofString "put" ++ bkS).length = 4 := by decide +kernel
  rw [ePut, fst_ok h (xs := [Str.ofString "put" ++ bkS, T]) rfl (by simp only [List.map_cons, List.map_nil, List.sum_cons, List.sum_nil, e2]; omega)]
  have : catS [Str.ofString "put" ++ bkS, T] = Str.ofString "put" ++ bkS ++ T := by simp only [catS, Str.append_empty]
  rw [this]
theorem ddt_ok (hn : Nut cl 6) (hp : Plt cl 7) {h : Hh} {d : Dd} (o : d.ok) : ∃ g, (xss G cl W dtB [some d.d, none, none, none, none, none, none, none, none, none, none] h).bind endD = .ok (.str d.tx) (h ++ g) := by
  have z1 : (1 : Nat) <= 100000 := by decide
  cases d with
  | drop nm =>
    have on : NmG nm := o
    refine ⟨[.lst [.str nm]], ?_⟩
    rw [xssNx (r' := [some (Dd.drop nm).d, some (.str "drop"), some (.ref h.length), none, none, none, none, none, none, none, none]) (h' := h ++ [.lst [.str nm]]) (by rw [xsAsgS, evV (x := (Dd.drop nm).d) rfl]; rfl), iffNo (i := 1) (z := "drop") rfl (by decide), iffNo (i := 1) (z := "drop") rfl (by decide),
      xssRt (xsRetV (d := .str (Dd.drop nm).tx) (h' := h ++ [.lst [.str nm]]) (by
        have c : ev G cl (.fmt (.ix (.var 2) (.int 0))) [some (Dd.drop nm).d, some (.str "drop"), some (.ref h.length), none, none, none, none, none, none, none, none] (h ++ [.lst [.str nm]]) = .ok (.str nm) (h ++ [.lst [.str nm]]) := by
          rw [evFmt, evIxV (i := 2) (x := .ref h.length) (y := .int 0) (d := .str nm) rfl (evInt ..) (by rw [iRef _ _ (lstAt_last _ _)]; rfl), bindOk, fmtS _ (Nat.le_trans on.hi (by decide))]
        rw [evFst, evsCons, fmtV (i := 1) (x := "drop") rfl (by decide), bindOk, evsCons, evStr, bindOk, evsCons, c, bindOk, evsNil]
        exact fst2 "drop" nm _ (by decide +kernel) (Nat.le_trans on.hi (by decide))))]
    rfl
  | untie i =>
    have on : Sm i := o
    refine ⟨[.lst [.int i]], ?_⟩
    rw [xssNx (r' := [some (Dd.untie i).d, some (.str "untie"), some (.ref h.length), none, none, none, none, none, none, none, none]) (h' := h ++ [.lst [.int i]]) (by rw [xsAsgS, evV (x := (Dd.untie i).d) rfl]; rfl), iffNo (i := 1) (z := "untie") rfl (by decide), iffNo (i := 1) (z := "untie") rfl (by decide),
      xssRt (xsRetV (d := .str (Dd.untie i).tx) (h' := h ++ [.lst [.int i]]) (by
        have c : ev G cl (.fmt (.ix (.var 2) (.int 0))) [some (Dd.untie i).d, some (.str "untie"), some (.ref h.length), none, none, none, none, none, none, none, none] (h ++ [.lst [.int i]]) = .ok (.str (nt i)) (h ++ [.lst [.int i]]) := by
          rw [evFmt, evIxV (i := 2) (x := .ref h.length) (y := .int 0) (d := .int i) rfl (evInt ..) (by rw [iRef _ _ (lstAt_last _ _)]; rfl), bindOk, fmtI _ on]
        rw [evFst, evsCons, fmtV (i := 1) (x := "untie") rfl (by decide), bindOk, evsCons, evStr, bindOk, evsCons, c, bindOk, evsNil]
        exact fst2 "untie" (nt i) _ (by decide +kernel) (Nat.le_trans (nt_len on).2 (by decide))))]
    rfl
  | tie a b m =>
    obtain ⟨oa, ob, om⟩ := o
    have ns : ∀ i ∈ [m.1, m.2.1, m.2.2], Sm i := fun i hi => by
      simp only [List.mem_cons, List.not_mem_nil, or_false] at hi
      rcases hi with rfl | rfl | rfl
      · exact om.1
      · exact om.2.1
      · exact om.2.2
    obtain ⟨g, e⟩ := (hn (h ++ [.lst [.str a, .str b, sd3 m]]) [m.1, m.2.1, m.2.2] (by show 3 <= 10; decide) ns).2
    let T : Str := Str.join bkS ([m.1, m.2.1, m.2.2].map nt)
    have lt : T.length <= 2000 := Nat.le_trans (lenJ ..) (nums_sum (l := [m.1, m.2.1, m.2.2]) (by show 3 <= 10; decide) ns)
    refine ⟨[.lst [.str a, .str b, sd3 m]] ++ g, ?_⟩
    rw [xssNx (r' := [some (Dd.tie a b m).d, some (.str "tie"), some (.ref h.length), none, none, none, none, none, none, none, none]) (h' := h ++ [.lst [.str a, .str b, sd3 m]]) (by rw [xsAsgS, evV (x := (Dd.tie a b m).d) rfl]; rfl), iffNo (i := 1) (z := "tie") rfl (by decide),
      iffYes (i := 1) (d := .str (Dd.tie a b m).tx) (h' := h ++ [.lst [.str a, .str b, sd3 m]] ++ g) rfl (by
        rw [xssNx (r' := [some (Dd.tie a b m).d, some (.str "tie"), some (.ref h.length), none, none, none, none, none, some (.str a), some (.str b), some (sd3 m)]) (h' := h ++ [.lst [.str a, .str b, sd3 m]]) (by
          rw [xsAsgL, evV (x := .ref h.length) rfl, nxOk, bindOk]
          simp only [lstAt_last]
          rfl)]
        exact xssRt (xsRetV (by
          have c : ev G cl (.fmt (.call 6 (.cons (.var 10) .nil))) [some (Dd.tie a b m).d, some (.str "tie"), some (.ref h.length), none, none, none, none, none, some (.str a), some (.str b), some (sd3 m)] (h ++ [.lst [.str a, .str b, sd3 m]]) = .ok (.str T) (h ++ [.lst [.str a, .str b, sd3 m]] ++ g) := by
            rw [evFmt, evC1 (i := 10) rfl e, bindOk, fmtS _ (Nat.le_trans lt (by decide))]
          rw [evFst, evsCons, evStr, bindOk, evsCons, fmtV (i := 8) (x := a) rfl (Nat.le_trans oa.hi (by decide)), bindOk, evsCons, evStr, bindOk, evsCons, fmtV (i := 9) (x := b) rfl (Nat.le_trans ob.hi (by decide)), bindOk, evsCons, evStr, bindOk, evsCons, c, bindOk, evsNil]
          exact fst6 a b T _ (Nat.le_trans oa.hi (by decide)) (Nat.le_trans ob.hi (by decide)) lt))), <- List.append_assoc]
    rfl
  | put nm w t l S =>
    have o' := o
    obtain ⟨o1, o2, o3, o4, o5, o6⟩ := o
    obtain ⟨g, e⟩ := hp (h ++ [.lst [.str nm, .int w, .int t, .int l, .tup (S.map sd3)]]) nm w t l S o'
    have lt : (Str.join bkS (Dd.put nm w t l S).rs).length <= 10000 := by
      refine Nat.le_trans (lenJ ..) ?_
      have a := ws_sum o'
      rw [List.map_cons, List.sum_cons, List.length_cons, Nat.succ_mul] at a
      omega
    refine ⟨[.lst [.str nm, .int w, .int t, .int l, .tup (S.map sd3)]] ++ g, ?_⟩
    rw [xssNx (r' := [some (Dd.put nm w t l S).d, some (.str "put"), some (.ref h.length), none, none, none, none, none, none, none, none]) (h' := h ++ [.lst [.str nm, .int w, .int t, .int l, .tup (S.map sd3)]]) (by rw [xsAsgS, evV (x := (Dd.put nm w t l S).d) rfl]; rfl),
      iffYes (i := 1) (d := .str (Dd.put nm w t l S).tx) (h' := h ++ [.lst [.str nm, .int w, .int t, .int l, .tup (S.map sd3)]] ++ g) rfl (by
        rw [xssNx (r' := [some (Dd.put nm w t l S).d, some (.str "put"), some (.ref h.length), some (.str nm), some (.int w), some (.int t), some (.int l), some (.tup (S.map sd3)), none, none, none]) (h' := h ++ [.lst [.str nm, .int w, .int t, .int l, .tup (S.map sd3)]]) (by
          rw [xsAsgL, evV (x := .ref h.length) rfl, nxOk, bindOk]
          simp only [lstAt_last]
          rfl)]
        exact xssRt (xsRetV (by
          have c : ev G cl (.fmt (.call 7 (.cons (.var 3) (.cons (.var 4) (.cons (.var 5) (.cons (.var 6) (.cons (.var 7) .nil))))))) [some (Dd.put nm w t l S).d, some (.str "put"), some (.ref h.length), some (.str nm), some (.int w), some (.int t), some (.int l), some (.tup (S.map sd3)), none, none, none] (h ++ [.lst [.str nm, .int w, .int t, .int l, .tup (S.map sd3)]]) = .ok (.str (Str.join bkS (Dd.put nm w t l S).rs)) (h ++ [.lst [.str nm, .int w, .int t, .int l, .tup (S.map sd3)]] ++ g) := by
            rw [evFmt, evCl (by rw [evsCons, evV (x := .str nm) rfl, bindOk, evsCons, evV (x := .int w) rfl, bindOk, evsCons, evV (x := .int t) rfl, bindOk, evsCons, evV (x := .int l) rfl, bindOk, evsCons, evV (x := .tup (S.map sd3)) rfl, bindOk, evsNil]; rfl) e, bindOk, fmtS _ (Nat.le_trans lt (by decide))]
          rw [evFst, evsCons, evStr, bindOk, evsCons, c, bindOk, evsNil]
          exact fstp _ _ lt))), <- List.append_assoc]
    rfl
abbrev dwB : Ss := (.cons (.iff (.cmp .eq (.ix (.var 0) (.int 0)) (.str "put")) (.cons (.asc 1 (.comp (.nm 0) .sq (.cons (.slT (.var 0) (.int 5)) .nil) .nil (.sof (.var 0)) ["_law_part"] [])) (.cons (.ret (.bin .add (.var 1) (.comp (.nm 0) .sq (.cons (.ix (.var 0) (.int 5)) .nil) .nil (.bin .add (.bin .add (.bin .add (.bin .add (.sof (.ix (.var 0) (.int 0))) (.str ",")) (.sof (.ix (.var 0) (.int 1)))) (.str ",")) (.sof (.ix (.var 0) (.int 2)))) ["_law_star"] []))) .nil)) .nil) (.cons (.iff (.cmp .eq (.ix (.var 0) (.int 0)) (.str "tie")) (.cons (.ret (.comp (.nm 0) .sq (.cons (.bin .add (.slT (.var 0) (.int 3)) (.ix (.var 0) (.int 3))) .nil) .nil (.sof (.var 0)) ["_law_part"] [])) .nil) .nil) (.cons (.ret (.comp (.nm 0) .sq (.cons (.var 0) .nil) .nil (.sof (.var 0)) ["_law_part"] [])) .nil)))
def Dwo (cl : Cl) (f : Nat) : Prop := ∀ (h : Hh) (d : Dd), d.ok -> ∃ n g, cl f [d.d] h = .ok (.ref n) (h ++ g) /\ lstAt (h ++ g) n = some ((d.hd :: d.rs).map D.str)
def Wk.sh : Wk -> Prop
  | .inl x => x.length <= 100000
  | .inr i => Sm i
theorem parts {it : Es} {r : Ev} {h h1 : Hh} {l : List Wk} (hi : evs G cl it r h = .ok [.tup (l.map Wk.v)] h1) (hm : l.length <= 1000) (ho : ∀ x ∈ l, x.sh) : ∃ gb, ev G cl (.comp (.nm 0) .sq it .nil (.sof (.var 0)) ["_law_part"] []) r h = .ok (.ref h1.length) (h1 ++ .lst (l.map fun x => D.str x.w) :: gb) :=
  evC_tupC (G := G) (cl := cl) Wk.v (fun r => ∃ a, r = [a]) (fun x => D.str x.w) hi hm ⟨_, rfl⟩ (by
    rintro x hx r h ⟨a, rfl⟩
    refine ⟨[some x.v], rfl, ⟨_, rfl⟩, ?_⟩
    rw [evSof, evV (x := x.v) rfl, bindOk]
    cases x with
    | inl z => exact fmtS h (ho _ hx)
    | inr i => exact fmtI h (ho _ hx))
theorem star_add {s : S3} (o : ok3 s) (h : Hh) : ev G cl (.bin .add (.bin .add (.bin .add (.bin .add (.sof (.ix (.var 0) (.int 0))) (.str ",")) (.sof (.ix (.var 0) (.int 1)))) (.str ",")) (.sof (.ix (.var 0) (.int 2)))) [some (sd3 s)] h = .ok (.str (sw s)) h := by
  have a := (nt_len o.1).2
  have b := (nt_len o.2.1).2
  have c := (nt_len o.2.2).2
  have f : ∀ {k z : Int}, ixD (sd3 s) (.int k) h = .ok (.int z) h -> Sm z -> ev G cl (.sof (.ix (.var 0) (.int k))) [some (sd3 s)] h = .ok (.str (nt z)) h := fun e sz => by
    rw [evSof, evIxV (i := 0) (x := sd3 s) rfl (evInt ..) e, bindOk, fmtI h sz]
  have ad : ∀ (x y : Str), x.length + y.length <= 1000 -> binD .add (.str x) (.str y) h = .ok (.str (x ++ y)) h := fun x y hz => if_pos (Nat.le_trans hz (by decide))
  have l1 : (nt s.1 ++ cmS).length = (nt s.1).length + 1 := strLen_append ..
  have l2 : (nt s.1 ++ cmS ++ nt s.2.1).length = (nt s.1 ++ cmS).length + (nt s.2.1).length := strLen_append ..
  have l3 : (nt s.1 ++ cmS ++ nt s.2.1 ++ cmS).length = (nt s.1 ++ cmS ++ nt s.2.1).length + 1 := strLen_append ..
  have e1 : cmS.length = 1 := rfl
  show ev G cl (.bin .add (.bin .add (.bin .add (.bin .add (.sof (.ix (.var 0) (.int 0))) (.str cmS)) (.sof (.ix (.var 0) (.int 1)))) (.str cmS)) (.sof (.ix (.var 0) (.int 2)))) [some (sd3 s)] h = _
  rw [evBin2 (evBin2 (evBin2 (evBin2 (f (z := s.1) rfl o.1) (evStr ..) (ad (nt s.1) cmS (by omega))) (f (z := s.2.1) rfl o.2.1) (ad _ _ (by omega))) (evStr ..) (ad _ cmS (by omega))) (f (z := s.2.2) rfl o.2.2) (ad _ _ (by omega))]
  congr 2
  show nt s.1 ++ cmS ++ nt s.2.1 ++ cmS ++ nt s.2.2 = nt s.1 ++ cmS ++ (nt s.2.1 ++ cmS ++ nt s.2.2)
  simp only [Str.append_assoc]
theorem dwo_ok {h : Hh} {d : Dd} (o : d.ok) : ∃ n g, (xss G cl W dwB [some d.d, none] h).bind endD = .ok (.ref n) (h ++ g) /\ lstAt (h ++ g) n = some ((d.hd :: d.rs).map D.str) := by
  have hx : ∀ (d : Dd) (x : Str) (r : Ev), r[0]? = some (some d.d) -> ev G cl (.cmp .eq (.ix (.var 0) (.int 0)) (.str x)) r h = .ok (.bl (decide (d.hd = x))) h := fun d x r hr => evCmp2 (evIxV (d := .str d.hd) hr (evInt ..) (by cases d <;> rfl)) (evStr ..) (cEqS ..)
  have no : ∀ {d : Dd} {x : Str} {A Z : Ss} {r : Ev}, r[0]? = some (some d.d) -> d.hd ≠ x -> xss G cl W (.cons (.iff (.cmp .eq (.ix (.var 0) (.int 0)) (.str x)) A .nil) Z) r h = xss G cl W Z r h := fun hr ne => xssNx (by rw [xsIffF (by rw [hx _ _ _ hr, decide_eq_false ne]), xssNil])
  have yes : ∀ {d : Dd} {x : Str} {A Z : Ss} {r : Ev} {v : D} {h' : Hh}, r[0]? = some (some d.d) -> d.hd = x -> xss G cl W A r h = .ok (.rt v) h' -> xss G cl W (.cons (.iff (.cmp .eq (.ix (.var 0) (.int 0)) (.str x)) A .nil) Z) r h = .ok (.rt v) h' := fun hr eq e => xssRt (by rw [xsIffT (by rw [hx _ _ _ hr, decide_eq_true eq]), e])
  cases d with
  | drop nm =>
    have on : NmG nm := o
    obtain ⟨gb, q⟩ := parts (G := G) (cl := cl) (it := .cons (.var 0) .nil) (r := [some (Dd.drop nm).d, none]) (h := h) (l := [.inl "drop", .inl nm]) (evs1 (evV rfl)) (by show 2 <= 1000; decide) (fun x hx => by
      simp only [List.mem_cons, List.not_mem_nil, or_false] at hx
      rcases hx with rfl | rfl
      · show (4 : Nat) <= 100000; decide
      · exact Nat.le_trans on.hi (by decide))
    refine ⟨h.length, _ :: gb, ?_, lstAt_mid h gb _⟩
    rw [no (d := .drop nm) rfl (by show ("drop" : Str) ≠ "put"; decide), no (d := .drop nm) rfl (by show ("drop" : Str) ≠ "tie"; decide), xssRt (xsRetV q)]
    rfl
  | untie i =>
    have on : Sm i := o
    obtain ⟨gb, q⟩ := parts (G := G) (cl := cl) (it := .cons (.var 0) .nil) (r := [some (Dd.untie i).d, none]) (h := h) (l := [.inl "untie", .inr i]) (evs1 (evV rfl)) (by show 2 <= 1000; decide) (fun x hx => by
      simp only [List.mem_cons, List.not_mem_nil, or_false] at hx
      rcases hx with rfl | rfl
      · show (5 : Nat) <= 100000; decide
      · exact on)
    refine ⟨h.length, _ :: gb, ?_, lstAt_mid h gb _⟩
    rw [no (d := .untie i) rfl (by show ("untie" : Str) ≠ "put"; decide), no (d := .untie i) rfl (by show ("untie" : Str) ≠ "tie"; decide), xssRt (xsRetV q)]
    rfl
  | tie a b m =>
    obtain ⟨oa, ob, om⟩ := o
    obtain ⟨gb, q⟩ := parts (G := G) (cl := cl) (it := .cons (.bin .add (.slT (.var 0) (.int 3)) (.ix (.var 0) (.int 3))) .nil) (r := [some (Dd.tie a b m).d, none]) (h := h) (h1 := h) (l := [.inl "tie", .inl a, .inl b, .inr m.1, .inr m.2.1, .inr m.2.2]) (evs1 (by
        have z1 : ev G cl (.slT (.var 0) (.int 3)) [some (Dd.tie a b m).d, none] h = .ok (.tup [.str "tie", .str a, .str b]) h := by
          rw [evSlT, evV (x := (Dd.tie a b m).d) rfl, bindOk, evInt, bindOk]; rfl
        rw [evBin, z1, bindOk, evIxV (i := 0) (x := (Dd.tie a b m).d) (d := sd3 m) rfl (evInt ..) rfl]
        rfl)) (by show 6 <= 1000; decide) (fun x hx => by
      simp only [List.mem_cons, List.not_mem_nil, or_false] at hx
      rcases hx with rfl | rfl | rfl | rfl | rfl | rfl
      · show (3 : Nat) <= 100000; decide
      · exact Nat.le_trans oa.hi (by decide)
      · exact Nat.le_trans ob.hi (by decide)
      · exact om.1
      · exact om.2.1
      · exact om.2.2)
    refine ⟨h.length, _ :: gb, ?_, lstAt_mid h gb _⟩
    rw [no (d := .tie a b m) rfl (by show ("tie" : Str) ≠ "put"; decide), yes (d := .tie a b m) (x := "tie") rfl rfl (xssRt (xsRetV q))]
    rfl
  | put nm w t l S =>
    obtain ⟨o1, o2, o3, o4, o5, o6⟩ := o
    let L1 : List Wk := [.inl "put", .inl nm, .inr w, .inr t, .inr l]
    obtain ⟨gb, q⟩ := parts (G := G) (cl := cl) (it := .cons (.slT (.var 0) (.int 5)) .nil) (r := [some (Dd.put nm w t l S).d, none]) (h := h) (h1 := h) (l := L1) (evs1 (by
        rw [evSlT, evV (x := (Dd.put nm w t l S).d) rfl, bindOk, evInt, bindOk]
        rfl)) (by show 5 <= 1000; decide) (fun x hx => by
      simp only [L1, List.mem_cons, List.not_mem_nil, or_false] at hx
      rcases hx with rfl | rfl | rfl | rfl | rfl
      · show (3 : Nat) <= 100000; decide
      · exact Nat.le_trans o1.hi (by decide)
      · exact o2
      · exact o3
      · exact o4)
    have g1 : (h ++ .lst (L1.map fun x => D.str x.w) :: gb)[h.length]? = some (.lst (L1.map fun x => D.str x.w)) := get_mid ..
    obtain ⟨gc, q2⟩ := evC_tupC (G := G) (cl := cl) (t := .nm 0) (it := .cons (.ix (.var 0) (.int 5)) .nil) (e := .bin .add (.bin .add (.bin .add (.bin .add (.sof (.ix (.var 0) (.int 0))) (.str ",")) (.sof (.ix (.var 0) (.int 1)))) (.str ",")) (.sof (.ix (.var 0) (.int 2)))) (N := ["_law_star"]) (cap := []) (r := [some (Dd.put nm w t l S).d, some (.ref h.length)]) (h := h ++ .lst (L1.map fun x => D.str x.w) :: gb) sd3 (fun r => ∃ a, r = [a]) (fun s => D.str (sw s)) (evs1 (evIxV (i := 0) (x := (Dd.put nm w t l S).d) rfl (evInt ..) rfl)) (by omega) ⟨_, rfl⟩ (by
      rintro s hs r h ⟨a, rfl⟩
      exact ⟨[some (sd3 s)], rfl, ⟨_, rfl⟩, star_add (o6 s hs) h⟩)
    have k1 := Kp.app (h ++ .lst (L1.map fun x => D.str x.w) :: gb) (.lst (S.map fun s => D.str (sw s)) :: gc) _ _ g1
    have k2 : (h ++ .lst (L1.map fun x => D.str x.w) :: gb ++ .lst (S.map fun s => D.str (sw s)) :: gc)[(h ++ .lst (L1.map fun x => D.str x.w) :: gb).length]? = some (.lst (S.map fun s => D.str (sw s))) := get_mid ..
    have ad := add_lst k1 k2 (by rw [List.length_map, List.length_map]; show 5 + S.length <= 1000; omega)
    have eh : ∃ g', h ++ .lst (L1.map fun x => D.str x.w) :: gb ++ .lst (S.map fun s => D.str (sw s)) :: gc = h ++ g' := ⟨_, List.append_assoc ..⟩
    obtain ⟨g', eg⟩ := eh
    rw [eg] at ad q2
    have h0 : xss G cl W (.cons (.asc 1 (.comp (.nm 0) .sq (.cons (.slT (.var 0) (.int 5)) .nil) .nil (.sof (.var 0)) ["_law_part"] [])) (.cons (.ret (.bin .add (.var 1) (.comp (.nm 0) .sq (.cons (.ix (.var 0) (.int 5)) .nil) .nil (.bin .add (.bin .add (.bin .add (.bin .add (.sof (.ix (.var 0) (.int 0))) (.str ",")) (.sof (.ix (.var 0) (.int 1)))) (.str ",")) (.sof (.ix (.var 0) (.int 2)))) ["_law_star"] []))) .nil)) [some (Dd.put nm w t l S).d, none] h = .ok (.rt (.ref (h ++ g').length)) (h ++ g' ++ [.lst ((L1.map fun x => D.str x.w) ++ S.map fun s => D.str (sw s))]) := by
      rw [xssNx (r' := [some (Dd.put nm w t l S).d, some (.ref h.length)]) (h' := h ++ .lst (L1.map fun x => D.str x.w) :: gb) (by rw [xsAsc, q]; rfl)]
      exact xssRt (xsRetV (by rw [evBin, evV (x := .ref h.length) rfl, bindOk, q2, bindOk]; exact ad))
    have hh : xss G cl W dwB [some (Dd.put nm w t l S).d, none] h = .ok (.rt (.ref (h ++ g').length)) (h ++ g' ++ [.lst ((L1.map fun x => D.str x.w) ++ S.map fun s => D.str (sw s))]) := yes (d := .put nm w t l S) (x := "put") (r := [some (Dd.put nm w t l S).d, none]) rfl rfl h0
    refine ⟨(h ++ g').length, g' ++ [.lst ((L1.map fun x => D.str x.w) ++ S.map fun s => D.str (sw s))], ?_, ?_⟩
    · rw [hh, <- List.append_assoc]; rfl
    · rw [<- List.append_assoc, lstAt_last]
      have e : (Dd.put nm w t l S).hd :: (Dd.put nm w t l S).rs = L1.map Wk.w ++ S.map sw := rfl
      rw [e, List.map_append, List.map_map, List.map_map]
      rfl
end
end Ng
end
section
namespace Ng
open PySem L2
theorem digs_lt : ∀ (cs : List Nat) (a : Nat), PySem.NumText.AllDigits cs -> cs.foldl (fun acc c => acc * 10 + (c - 48)) a < (a + 1) * 10 ^ cs.length
  | [], a, _ => by simp
  | c :: cs, a, h => by
    have := digs_lt cs (a * 10 + (c - 48)) h.tail
    have hc := h.head
    rw [List.foldl_cons, List.length_cons]
    refine Nat.lt_of_lt_of_le this ?_
    rw [Nat.pow_succ, <- Nat.mul_assoc, Nat.mul_comm ((a + 1) * 10 ^ cs.length) 10, <- Nat.mul_assoc]
    exact Nat.mul_le_mul (by omega) (Nat.le_refl _)
def onz (k : Nat) : Str := ⟨(49 :: List.replicate k 48).toArray⟩
def tenN (k : Nat) : Int := (intText? (onz k)).getD 0
theorem onz_ok {k : Nat} (h : k <= 96) : (onz k).length = k + 1 /\ ∃ m : Nat, intText? (onz k) = some (m : Int) /\ m < 10 ^ 97 := by
  have ln : (onz k).length = k + 1 := by show (49 :: List.replicate k 48).toArray.size = _; simp
  have ec : (onz k).cps.toList = 49 :: List.replicate k 48 := by unfold onz; simp
  have ad : PySem.NumText.AllDigits (onz k).cps.toList := fun c hc => by
    rw [ec] at hc
    rcases List.mem_cons.mp hc with rfl | hc
    · omega
    · rw [(List.mem_replicate.mp hc).2]; omega
  have e := PySem.intText_digits ad (by rw [ec]; simp) (by omega)
  refine ⟨ln, _, e, ?_⟩
  have := digs_lt _ 0 ad
  rw [Nat.zero_add, Nat.one_mul] at this
  refine Nat.lt_of_lt_of_le this (Nat.pow_le_pow_right (by omega) ?_)
  rw [ec]; simp; omega
def anyN (a b : Int) : Int := if a % 4 = 0 then a / 4 % 21 - 10 else if a % 4 = 1 then (b - 506) * tenN (a / 4 % 97).toNat else a * 1013 + b - 513000
theorem sm_small {i : Int} (h1 : -10000000 < i) (h2 : i < 10000000) : Sm i := Nat.lt_of_lt_of_le (show i.natAbs < 10000000 by omega) (by decide +kernel)
theorem anyN_sm {a b : Int} (ha : 0 <= a /\ a < 1013) (hb : 0 <= b /\ b < 1013) : Sm (anyN a b) := by
  unfold anyN
  split
  · exact sm_small (by omega) (by omega)
  · split
    · obtain ⟨_, m, e, hm⟩ := onz_ok (k := (a / 4 % 97).toNat) (by omega)
      unfold tenN
      rw [e]
      show ((b - 506) * (m : Int)).natAbs < 10 ^ 100
      rw [Int.natAbs_mul, Int.natAbs_natCast]
      have : (b - 506).natAbs <= 506 := by omega
      have h2 : (b - 506).natAbs * m <= 506 * 10 ^ 97 := Nat.mul_le_mul this (Nat.le_of_lt hm)
      exact Nat.lt_of_le_of_lt h2 (by decide +kernel)
    · exact sm_small (by omega) (by omega)
section
variable {G : Gs} {cl : Cl} {W : Nat}
abbrev anB : Ss := (.cons (.iff (.cmp .eq (.bin .mod (.var 0) (.int 4)) (.int 0)) (.cons (.ret (.bin .sub (.bin .mod (.bin .fdiv (.var 0) (.int 4)) (.int 21)) (.int 10))) .nil) .nil) (.cons (.iff (.cmp .eq (.bin .mod (.var 0) (.int 4)) (.int 1)) (.cons (.ret (.bin .mul (.bin .sub (.var 1) (.int 506)) (.itx (.bin .add (.str "1") (.rep (.str "0") (.bin .mod (.bin .fdiv (.var 0) (.int 4)) (.int 97))))))) .nil) .nil) (.cons (.ret (.bin .sub (.bin .add (.bin .mul (.var 0) (.int 1013)) (.var 1)) (.int 513000))) .nil)))
def Anu (cl : Cl) (f : Nat) : Prop := ∀ (h : Hh) (a b : Int), (0 <= a /\ a < 1013) -> (0 <= b /\ b < 1013) -> cl f [.int a, .int b] h = .ok (.int (anyN a b)) h
theorem anu_ok {h : Hh} {a b : Int} (ha : 0 <= a /\ a < 1013) (hb : 0 <= b /\ b < 1013) : (xss G cl W anB [some (.int a), some (.int b)] h).bind endD = .ok (.int (anyN a b)) h := by
  have m4 : ev G cl (.bin .mod (.var 0) (.int 4)) [some (.int a), some (.int b)] h = .ok (.int (a % 4)) h := evBin2 (evV rfl) (evInt ..) (bMod _ (by omega))
  have d4 : ∀ k : Int, 0 < k -> ev G cl (.bin .mod (.bin .fdiv (.var 0) (.int 4)) (.int k)) [some (.int a), some (.int b)] h = .ok (.int (a / 4 % k)) h := fun k hk => evBin2 (evBin2 (evV rfl) (evInt ..) (bDiv _ (by omega) (by omega))) (evInt ..) (bMod _ hk)
  have c0 : ∀ k : Int, ev G cl (.cmp .eq (.bin .mod (.var 0) (.int 4)) (.int k)) [some (.int a), some (.int b)] h = .ok (.bl (decide (a % 4 = k))) h := fun k => evCmp2 m4 (evInt ..) (cEqI ..)
  unfold anyN
  by_cases h0 : a % 4 = 0
  · rw [if_pos h0, xssRt (d := .int (a / 4 % 21 - 10)) (h' := h) (by rw [xsIffT (by rw [c0, decide_eq_true h0]), xssRt (xsRetV (evBin2 (d4 21 (by omega)) (evInt ..) (bSub ..)))])]
    rfl
  · rw [if_neg h0, xssNx (by rw [xsIffF (by rw [c0, decide_eq_false h0]), xssNil])]
    by_cases h1 : a % 4 = 1
    · obtain ⟨ln, m, e, hm⟩ := onz_ok (k := (a / 4 % 97).toNat) (by omega)
      have r1 : ev G cl (.rep (.str "0") (.bin .mod (.bin .fdiv (.var 0) (.int 4)) (.int 97))) [some (.int a), some (.int b)] h = .ok (.str ⟨(List.replicate (a / 4 % 97).toNat [48]).flatten.toArray⟩) h := by
        rw [evRep, evStr, bindOk, d4 97 (by omega), bindOk]
        show (if 0 <= a / 4 % 97 /\ a / 4 % 97 <= 1000 /\ (1 : Nat) <= 1000 then Rs.ok (D.str ⟨(List.replicate (a / 4 % 97).toNat [48]).flatten.toArray⟩) h else .bad) = _
        rw [if_pos ⟨by omega, by omega, by decide⟩]
      have fl : (List.replicate (a / 4 % 97).toNat [48]).flatten = List.replicate (a / 4 % 97).toNat 48 := by
        generalize (a / 4 % 97).toNat = k
        induction k with
        | zero => rfl
        | succ k ih => rw [List.replicate_succ, List.flatten_cons, ih, List.replicate_succ]; rfl
      rw [fl] at r1
      have ap : (Str.ofString "1") ++ (⟨(List.replicate (a / 4 % 97).toNat 48).toArray⟩ : Str) = onz (a / 4 % 97).toNat := by
        apply Str.ext'
        apply Array.toList_inj.mp
        rw [Str.cps_append, Array.toList_append]
        show [49] ++ _ = _
        unfold onz
        simp
      have r2 : ev G cl (.bin .add (.str "1") (.rep (.str "0") (.bin .mod (.bin .fdiv (.var 0) (.int 4)) (.int 97)))) [some (.int a), some (.int b)] h = .ok (.str (onz (a / 4 % 97).toNat)) h := evBin2 (evStr ..) r1 (by
        show (if 1 + (List.replicate (a / 4 % 97).toNat 48).toArray.size <= sizeLine then Rs.ok (D.str (Str.ofString "1" ++ (⟨(List.replicate (a / 4 % 97).toNat 48).toArray⟩ : Str))) h else .bad) = _
        rw [if_pos (by rw [List.size_toArray, List.length_replicate]; exact Nat.le_trans (show _ <= 1000 by omega) (by decide)), ap])
      have r3 : ev G cl (.itx (.bin .add (.str "1") (.rep (.str "0") (.bin .mod (.bin .fdiv (.var 0) (.int 4)) (.int 97))))) [some (.int a), some (.int b)] h = .ok (.int m) h := by
        rw [evItx, r2, bindOk]
        show (if (onz (a / 4 % 97).toNat).length <= 640 then _ else _) = _
        rw [if_pos (by omega), e]
      rw [if_pos h1, xssRt (d := .int ((b - 506) * tenN (a / 4 % 97).toNat)) (h' := h) (by
        rw [xsIffT (by rw [c0, decide_eq_true h1]), xssRt (xsRetV (evBin2 (evBin2 (evV rfl) (evInt ..) (bSub ..)) r3 (bMulL _ (by omega) (by omega))))]
        unfold tenN
        rw [e]; rfl)]
      rfl
    · rw [if_neg h1, xssNx (by rw [xsIffF (by rw [c0, decide_eq_false h1]), xssNil]), xssRt (xsRetV (evBin2 (evBin2 (evBin2 (evV rfl) (evInt ..) (bMulL _ (by omega) (by omega))) (evV rfl) (bAdd ..)) (evInt ..) (bSub ..)))]
      rfl
theorem ab_at {i : Int} (a : 0 <= i) (b : i < 26) (h : Hh) : ixD (.str abS) (.int i) h = .ok (.str ⟨#[97 + i.toNat]⟩) h := by
  show ixT abS (.int i) h = _
  unfold ixT
  simp only
  rw [if_pos (by decide +kernel)]
  have key : ∀ j : Nat, j < 26 -> abS.cps.toList[j]? = some (97 + j) := by decide +kernel
  have := atI_nat (xs := abS.cps.toList) (j := i.toNat) (v := 97 + i.toNat) (key _ (by omega))
  rw [Int.toNat_of_nonneg a] at this
  rw [this]
theorem join_one : ∀ l : List Nat, (Str.join (Str.ofString "") (l.map fun c => (⟨#[c]⟩ : Str))).cps.toList = l
  | [] => rfl
  | [c] => rfl
  | c :: d :: r => by
    have := join_one (d :: r)
    show ((⟨#[c]⟩ : Str) ++ Str.ofString "" ++ Str.join (Str.ofString "") ((d :: r).map fun c => (⟨#[c]⟩ : Str))).cps.toList = _
    rw [Str.cps_append, Str.cps_append, Array.toList_append, Array.toList_append, this]
    rfl
abbrev lett (i j : Nat) : E := (.ix (.var 1) (.bin .mod (.bin .add (.ix (.var 2) (.int i)) (.bin .mul (.var 0) (.ix (.var 2) (.int j)))) (.int 26)))
theorem name_ok {n z : Nat} {row : List Int} {h0 h : Hh} (Q : Row h0 n row) (kp : Kp h0 h) (hl : row.length = 27) {i j q : Nat} (hi : i < 27) (hj : j < 27) (hq : q < 27) (hz : 0 < z /\ z <= 12) {r : Ev} (r0 : r[0]? = some (some (.ref n))) (r1 : r[1]? = some (some (.str abS))) :
    ∃ nm g, NmG nm /\ ev G cl (.join "" (.comp (.nm 0) .r1 (.cons (.bin .add (.int 1) (.bin .mod (.ix (.var 0) (.int q)) (.int z))) .nil) .nil (lett i j) ["_law_k", "_law_letters", "_law_d"] [1, 0])) r h = .ok (.str nm) (h ++ g) := by
  have rq := Q.rng q (by omega)
  have ri := Q.rng i (by omega)
  have rj := Q.rng j (by omega)
  have zi : (0 : Int) < z := by omega
  have m0 : 0 <= Row.R row q % z := Int.emod_nonneg _ (by omega)
  have m1 : Row.R row q % z < z := Int.emod_lt_of_pos _ zi
  obtain ⟨m, em⟩ : ∃ m : Nat, 1 + Row.R row q % z = (m : Int) := ⟨(1 + Row.R row q % z).toNat, by omega⟩
  have hm : 1 <= m /\ m <= 12 := by omega
  have e0 : ev G cl (.bin .add (.int 1) (.bin .mod (.ix (.var 0) (.int q)) (.int z))) r h = .ok (.int m) h := by
    rw [<- em]
    exact evBin2 (evInt ..) (evBin2 (evIxV r0 (evInt ..) (Q.ix kp q (by omega))) (evInt ..) (bMod _ zi)) (bAdd ..)
  have bl : ∃ d, blockE ["_law_k", "_law_letters", "_law_d"] [1, 0] r = [d, some (.str abS), some (.ref n)] := by
    refine ⟨none, ?_⟩
    unfold blockE capV
    simp only [List.map_cons, List.map_nil, r0, r1]
    rfl
  let f : Nat -> Nat := fun k => 97 + ((Row.R row i + (k : Int) * Row.R row j) % 26).toNat
  obtain ⟨gb, qq⟩ := evC_r1 (G := G) (cl := cl) (t := .nm 0) (it := .cons (.bin .add (.int 1) (.bin .mod (.ix (.var 0) (.int q)) (.int z))) .nil) (cs := .nil) (e := lett i j) (N := ["_law_k", "_law_letters", "_law_d"]) (cap := [1, 0]) (r := r) (h := h) (j := m)
    (fun r => ∃ d, r = [d, some (.str abS), some (.ref n)]) (fun _ => true) (fun k => D.str ⟨#[f k]⟩) (evs1 e0) (by omega) bl fun b hb => ⟨by
      rintro r ys gb ⟨d, rfl⟩
      have hb' : b < m := List.mem_range.mp hb
      refine ⟨[some (.int b), some (.str abS), some (.ref n)], [], rfl, by rw [evtNil, List.append_nil], ⟨_, rfl⟩, fun _ => ⟨[], ?_⟩⟩
      rw [List.append_nil, List.append_nil]
      have kq : Kp h0 (h ++ .lst ys :: gb) := kp.trans (Kp.app _ _)
      exact evIxV rfl (evBin2 (evBin2 (evIxV rfl (evInt ..) (Q.ix kq i (by omega))) (evBin2 (evV rfl) (evIxV rfl (evInt ..) (Q.ix kq j (by omega))) (bMulL _ (by omega) (by omega))) (bAdd ..)) (evInt ..) (bMod _ (by omega))) (ab_at (Int.emod_nonneg _ (by omega)) (Int.emod_lt_of_pos _ (by omega)) _)⟩
  rw [List.filter_eq_self.mpr (fun _ _ => rfl)] at qq
  have jj := join_at (s := Str.ofString "") (l := ((List.range m).map f).map fun c => (⟨#[c]⟩ : Str)) (h := h ++ .lst ((List.range m).map fun k => D.str ⟨#[f k]⟩) :: gb) (n := h.length) (by rw [lstAt_mid, List.map_map, List.map_map]; rfl) (by
    have := sum_le (B := 1) (((List.range m).map f).map fun c => (⟨#[c]⟩ : Str)) fun x hx => by obtain ⟨c, _, rfl⟩ := List.mem_map.mp hx; exact Nat.le_refl 1
    have e1 : (((List.range m).map f).map fun c => (⟨#[c]⟩ : Str)).length = m := by simp
    have e2 : (Str.ofString "").length = 0 := by decide
    rw [e2]
    omega)
  rw [tj] at jj
  have ec := join_one ((List.range m).map f)
  generalize Str.join (Str.ofString "") (((List.range m).map f).map fun c => (⟨#[c]⟩ : Str)) = nm at jj ec
  have nl : nm.length = m := by
    have : nm.cps.toList.length = nm.length := Array.length_toList
    rw [<- this, ec]; simp
  refine ⟨nm, .lst ((List.range m).map fun k => D.str ⟨#[f k]⟩) :: gb, ⟨by omega, by omega, fun c hc => ?_⟩, ?_⟩
  · rw [ec] at hc
    obtain ⟨k, _, rfl⟩ := List.mem_map.mp hc
    have a0 : (0 : Int) <= (Row.R row i + (k : Int) * Row.R row j) % 26 := Int.emod_nonneg _ (by omega)
    have a1 : (Row.R row i + (k : Int) * Row.R row j) % 26 < 26 := Int.emod_lt_of_pos _ (by omega)
    show 97 <= 97 + ((Row.R row i + (k : Int) * Row.R row j) % 26).toNat /\ 97 + ((Row.R row i + (k : Int) * Row.R row j) % 26).toNat <= 122
    omega
  · rw [evJoin', qq, bindOk]; exact jj
end
end Ng
end
section
namespace Ng
open PySem L2
section
variable {G : Gs} {cl : Cl} {W : Nat}
abbrev nmsE : E := (.comp (.nm 0) .r2 (.cons (.int 5) (.cons (.int 26) .nil)) .nil (.call 13 (.cons (.ix (.var 1) (.var 0)) (.cons (.ix (.var 1) (.bin .add (.var 0) (.int 1))) .nil))) ["_law_k", "_law_d"] [0])
theorem nums_ok (ha : Anu cl 13) {n : Nat} {row : List Int} {h0 h : Hh} (Q : Row h0 n row) (kp : Kp h0 h) (hl : row.length = 27) {r : Ev} (r0 : r[0]? = some (some (.ref n))) : ∃ (ns : List Int) (g : Hh), ns.length = 21 /\ (∀ i ∈ ns, Sm i) /\ ev G cl nmsE r h = .ok (.ref h.length) (h ++ .lst (ns.map D.int) :: g) := by
  let v : Nat -> Int := fun k => anyN (Row.R row (5 + k)) (Row.R row (5 + k + 1))
  have bl : ∃ d, blockE ["_law_k", "_law_d"] [0] r = [d, some (.ref n)] := by
    refine ⟨none, ?_⟩
    unfold blockE capV
    simp only [List.map_cons, List.map_nil, r0]
    rfl
  obtain ⟨gb, q⟩ := compS_gen (φ := fun k : Nat => D.int (5 + k)) (t := .nm 0) (cs := evt G cl .nil) (f := ev G cl (.call 13 (.cons (.ix (.var 1) (.var 0)) (.cons (.ix (.var 1) (.bin .add (.var 0) (.int 1))) .nil)))) (h0 := h) (F := fun r => ∃ a, r = [a, some (.ref n)]) (p := fun _ => true) (g := fun k => D.int (v k)) (List.range 21) (fun k hk => ⟨fun r ys gb hr => by
    obtain ⟨a, rfl⟩ := hr
    have hk' : k < 21 := List.mem_range.mp hk
    refine ⟨[some (.int (5 + k)), some (.ref n)], [], rfl, by rw [evtNil, List.append_nil], ⟨_, rfl⟩, fun _ => ⟨[], ?_⟩⟩
    rw [List.append_nil, List.append_nil]
    have kq : Kp h0 (h ++ .lst ys :: gb) := kp.trans (Kp.app _ _)
    have i1 := Q.ix kq (5 + k) (by omega)
    have i2 := Q.ix kq (5 + k + 1) (by omega)
    have c1 : (((5 + k : Nat) : Nat) : Int) = 5 + (k : Int) := by omega
    have c2 : (((5 + k + 1 : Nat) : Nat) : Int) = 5 + (k : Int) + 1 := by omega
    rw [c1] at i1
    rw [c2] at i2
    exact evCl (evs2 (evIxV (i := 1) rfl (evV rfl) i1) (evIxV (i := 1) rfl (evBin2 (evV rfl) (evInt ..) (bAdd ..)) i2)) (ha _ _ _ (Q.rng (5 + k) (by omega)) (Q.rng (5 + k + 1) (by omega)))⟩) (blockE ["_law_k", "_law_d"] [0] r) [] [] bl (by simp)
  rw [List.filter_eq_self.mpr (fun _ _ => rfl), List.nil_append] at q
  refine ⟨(List.range 21).map v, gb, by simp, fun i hi => ?_, ?_⟩
  · obtain ⟨k, hk, rfl⟩ := List.mem_map.mp hi
    have hk' : k < 21 := List.mem_range.mp hk
    exact anyN_sm (Q.rng _ (by omega)) (Q.rng _ (by omega))
  · rw [evComp, evs2 (evInt ..) (evInt ..), bindOk, List.map_map]
    have e : rngD 5 26 = (List.range 21).map fun k : Nat => D.int (5 + k) := rfl
    simp only [compL]
    rw [if_pos (by decide), e, q]
    rfl
abbrev adS : Ss := (.cons (.ex (.app (.var 5) (.tup (.cons (.ix (.var 4) (.bin .mod (.bin .mul (.int 3) (.var 6)) (.int 21))) (.cons (.ix (.var 4) (.bin .mod (.bin .add (.bin .mul (.int 3) (.var 6)) (.int 1)) (.int 21))) (.cons (.ix (.var 4) (.bin .mod (.bin .add (.bin .mul (.int 3) (.var 6)) (.int 5)) (.int 21))) .nil)))))) .nil)
abbrev adB : Ss := (.cons (.asg (.nm 1) (.str "abcdefghijklmnopqrstuvwxyz")) (.cons (.asg (.nm 2) (.join "" (.comp (.nm 0) .r1 (.cons (.bin .add (.int 1) (.bin .mod (.ix (.var 0) (.int 3)) (.int 12))) .nil) .nil (.ix (.var 1) (.bin .mod (.bin .add (.ix (.var 2) (.int 1)) (.bin .mul (.var 0) (.ix (.var 2) (.int 2)))) (.int 26))) ["_law_k", "_law_letters", "_law_d"] [1, 0]))) (.cons (.asg (.nm 3) (.join "" (.comp (.nm 0) .r1 (.cons (.bin .add (.int 1) (.bin .mod (.ix (.var 0) (.int 4)) (.int 9))) .nil) .nil (.ix (.var 1) (.bin .mod (.bin .add (.ix (.var 2) (.int 2)) (.bin .mul (.var 0) (.ix (.var 2) (.int 1)))) (.int 26))) ["_law_k", "_law_letters", "_law_d"] [1, 0]))) (.cons (.asc 4 nmsE) (.cons (.iff (.cmp .eq (.bin .mod (.ix (.var 0) (.int 0)) (.int 4)) (.int 0)) (.cons (.ret (.tup (.cons (.str "drop") (.cons (.var 2) .nil)))) .nil) .nil) (.cons (.iff (.cmp .eq (.bin .mod (.ix (.var 0) (.int 0)) (.int 4)) (.int 1)) (.cons (.ret (.tup (.cons (.str "untie") (.cons (.ix (.var 4) (.int 0)) .nil)))) .nil) .nil) (.cons (.iff (.cmp .eq (.bin .mod (.ix (.var 0) (.int 0)) (.int 4)) (.int 2)) (.cons (.ret (.tup (.cons (.str "tie") (.cons (.var 2) (.cons (.var 3) (.cons (.tup (.cons (.ix (.var 4) (.int 0)) (.cons (.ix (.var 4) (.int 1)) (.cons (.ix (.var 4) (.int 2)) .nil)))) .nil)))))) .nil) .nil) (.cons (.asg (.nm 5) (.lst .nil)) (.cons (.forr (.nm 6) (.r1 (.bin .mod (.bin .fdiv (.ix (.var 0) (.int 0)) (.int 4)) (.int 11))) adS) (.cons (.ret (.tup (.cons (.str "put") (.cons (.var 2) (.cons (.ix (.var 4) (.int 0)) (.cons (.ix (.var 4) (.int 1)) (.cons (.ix (.var 4) (.int 2)) (.cons (.blt .tup (.cons (.var 5) .nil)) .nil)))))))) .nil))))))))))
def Ady (cl : Cl) (f : Nat) : Prop := ∀ (h : Hh) (n : Nat) (row : List Int), Row h n row -> row.length = 27 -> ∃ (d : Dd) (g : Hh), d.ok /\ cl f [.ref n] h = .ok d.d (h ++ g)
theorem ady_ok (ha : Anu cl 13) {h : Hh} {n : Nat} {row : List Int} (Q : Row h n row) (hl : row.length = 27) : ∃ (d : Dd) (g : Hh), d.ok /\ (xss G cl W adB [some (.ref n), none, none, none, none, none, none] h).bind endD = .ok d.d (h ++ g) := by
  obtain ⟨one, g1, o1, e1⟩ := name_ok (G := G) (cl := cl) (z := 12) (i := 1) (j := 2) (q := 3) Q (Kp.refl h) hl (by omega) (by omega) (by omega) (by omega) (r := [some (.ref n), some (.str abS), none, none, none, none, none]) rfl rfl
  obtain ⟨oth, g2, o2, e2⟩ := name_ok (G := G) (cl := cl) (z := 9) (i := 2) (j := 1) (q := 4) Q (Kp.app h g1) hl (by omega) (by omega) (by omega) (by omega) (r := [some (.ref n), some (.str abS), some (.str one), none, none, none, none]) rfl rfl
  have k2 : Kp h (h ++ g1 ++ g2) := (Kp.app h g1).trans (Kp.app _ _)
  obtain ⟨ns, g3, nl, no, e3⟩ := nums_ok (G := G) ha Q k2 hl (r := [some (.ref n), some (.str abS), some (.str one), some (.str oth), none, none, none]) rfl
  have k3 : Kp h (h ++ g1 ++ g2 ++ .lst (ns.map D.int) :: g3) := k2.trans (Kp.app _ _)
  have ln : lstAt (h ++ g1 ++ g2 ++ .lst (ns.map D.int) :: g3) (h ++ g1 ++ g2).length = some (ns.map D.int) := lstAt_mid ..
  have eh : ∃ g, h ++ g1 ++ g2 ++ .lst (ns.map D.int) :: g3 = h ++ g := ⟨_, by rw [List.append_assoc, List.append_assoc]⟩
  unfold adB
  rw [xssNx (r' := [some (.ref n), some (.str abS), none, none, none, none, none]) (h' := h) (xsAsgV (evStr ..)), xssNx (r' := [some (.ref n), some (.str abS), some (.str one), none, none, none, none]) (h' := h ++ g1) (xsAsgV e1), xssNx (r' := [some (.ref n), some (.str abS), some (.str one), some (.str oth), none, none, none]) (h' := h ++ g1 ++ g2) (xsAsgV e2),
    xssNx (r' := [some (.ref n), some (.str abS), some (.str one), some (.str oth), some (.ref (h ++ g1 ++ g2).length), none, none]) (h' := h ++ g1 ++ g2 ++ .lst (ns.map D.int) :: g3) (by rw [xsAsc, e3]; rfl)]
  generalize (h ++ g1 ++ g2).length = p at ln ⊢
  generalize h ++ g1 ++ g2 ++ .lst (ns.map D.int) :: g3 = h2 at k3 ln eh ⊢
  obtain ⟨g, rfl⟩ := eh
  have rg := Q.rng 0 (by omega)
  have ixn : ∀ (h' : Hh) (j : Nat), lstAt h' p = some (ns.map D.int) -> j < 21 -> ∃ z, Sm z /\ ixD (.ref p) (.int j) h' = .ok (.int z) h' := fun h' j e hj => by
    refine ⟨ns[j], no _ (List.getElem_mem (by omega)), ?_⟩
    rw [iRef _ _ e, atI_nat (v := .int ns[j]) (by rw [List.getElem?_map, List.getElem?_eq_getElem (by omega)]; rfl)]
  have c4 : ∀ (r : Ev) (k : Int), r[0]? = some (some (.ref n)) -> ev G cl (.cmp .eq (.bin .mod (.ix (.var 0) (.int 0)) (.int 4)) (.int k)) r (h ++ g) = .ok (.bl (decide (Row.R row 0 % 4 = k))) (h ++ g) := fun r k hr => evCmp2 (evBin2 (evIxV hr (evInt ..) (Q.ix k3 0 (by omega))) (evInt ..) (bMod _ (by omega))) (evInt ..) (cEqI ..)
  by_cases h0 : Row.R row 0 % 4 = 0
  · refine ⟨.drop one, g, o1, ?_⟩
    rw [xssRt (d := (Dd.drop one).d) (h' := h ++ g) (by rw [xsIffT (by rw [c4 _ _ rfl, decide_eq_true h0]), xssRt (xsRetV (evTup2 (evStr ..) (evV rfl)))]; rfl)]
    rfl
  rw [xssNx (by rw [xsIffF (by rw [c4 _ _ rfl, decide_eq_false h0]), xssNil])]
  obtain ⟨z0, s0, i0⟩ := ixn _ 0 ln (by omega)
  replace i0 : ixD (.ref p) (.int 0) (h ++ g) = .ok (.int z0) (h ++ g) := i0
  by_cases h1 : Row.R row 0 % 4 = 1
  · refine ⟨.untie z0, g, s0, ?_⟩
    rw [xssRt (d := (Dd.untie z0).d) (h' := h ++ g) (by rw [xsIffT (by rw [c4 _ _ rfl, decide_eq_true h1]), xssRt (xsRetV (evTup2 (evStr ..) (evIxV (i := 4) rfl (evInt ..) i0)))]; rfl)]
    rfl
  rw [xssNx (by rw [xsIffF (by rw [c4 _ _ rfl, decide_eq_false h1]), xssNil])]
  obtain ⟨z1, s1, i1⟩ := ixn _ 1 ln (by omega)
  replace i1 : ixD (.ref p) (.int 1) (h ++ g) = .ok (.int z1) (h ++ g) := i1
  obtain ⟨z2, s2, i2⟩ := ixn _ 2 ln (by omega)
  replace i2 : ixD (.ref p) (.int 2) (h ++ g) = .ok (.int z2) (h ++ g) := i2
  by_cases h2 : Row.R row 0 % 4 = 2
  · refine ⟨.tie one oth (z0, z1, z2), g, ⟨o1, o2, s0, s1, s2⟩, ?_⟩
    rw [xssRt (d := (Dd.tie one oth (z0, z1, z2)).d) (h' := h ++ g) (by
      rw [xsIffT (by rw [c4 _ _ rfl, decide_eq_true h2])]
      refine xssRt ?_
      rw [xsRet, evTup, evsCons, evStr, bindOk, evsCons, evV (x := .str one) rfl, bindOk, evsCons, evV (x := .str oth) rfl, bindOk, evsCons, evTup, evsCons, evIxV (i := 4) (d := .int z0) rfl (evInt ..) i0, bindOk, evsCons, evIxV (i := 4) (d := .int z1) rfl (evInt ..) i1, bindOk, evsCons, evIxV (i := 4) (d := .int z2) rfl (evInt ..) i2, bindOk, evsNil]
      rfl)]
    rfl
  rw [xssNx (by rw [xsIffF (by rw [c4 _ _ rfl, decide_eq_false h2]), xssNil])]
  rw [xssNx (r' := [some (.ref n), some (.str abS), some (.str one), some (.str oth), some (.ref p), some (.ref (h ++ g).length), none]) (h' := h ++ g ++ [.lst []]) (xsAsgV (by rw [evLst, evsNil]; rfl))]
  obtain ⟨m, em⟩ : ∃ m : Nat, Row.R row 0 / 4 % 11 = (m : Int) := ⟨(Row.R row 0 / 4 % 11).toNat, by omega⟩
  have hm : m <= 10 := by omega
  have kl : Kp h (h ++ g ++ [.lst []]) := k3.trans (Kp.app _ _)
  obtain ⟨r', h', ef, S, d6, hS, oS, er, eh⟩ := forS_inv (t := .nm 6) (body := xss G cl W adS) (fun k r h' => ∃ (S : List S3) (d6 : Option D), S.length = k /\ (∀ s ∈ S, ok3 s) /\ r = [some (.ref n), some (.str abS), some (.str one), some (.str oth), some (.ref p), some (.ref (h ++ g).length), d6] /\ h' = h ++ g ++ [.lst (S.map sd3)]) (rngD 0 m) 0 (by
    rintro j d hd r h' ⟨S, d6, hS, oS, rfl, rfl⟩
    have hj : j < m := by have := (List.getElem?_eq_some_iff.mp hd).1; rwa [rngD_len] at this
    rw [rngD_get m j hj] at hd
    cases hd
    have lk : lstAt (h ++ g ++ [.lst (S.map sd3)]) p = some (ns.map D.int) := lstAt_app _ _ ln
    have ixm : ∀ x : Int, ∃ z, Sm z /\ ixD (.ref p) (.int (x % 21)) (h ++ g ++ [.lst (S.map sd3)]) = .ok (.int z) (h ++ g ++ [.lst (S.map sd3)]) := fun x => by
      have a0 : 0 <= x % 21 := Int.emod_nonneg _ (by omega)
      have a1 : x % 21 < 21 := Int.emod_lt_of_pos _ (by omega)
      obtain ⟨z, sz, e⟩ := ixn _ (x % 21).toNat lk (by omega)
      rw [Int.toNat_of_nonneg a0] at e
      exact ⟨z, sz, e⟩
    obtain ⟨a, sa, ea⟩ := ixm (3 * (j : Int))
    obtain ⟨b, sb, eb⟩ := ixm (3 * (j : Int) + 1)
    obtain ⟨c, sc, ec⟩ := ixm (3 * (j : Int) + 5)
    have m3 : ev G cl (.bin .mul (.int 3) (.var 6)) [some (.ref n), some (.str abS), some (.str one), some (.str oth), some (.ref p), some (.ref (h ++ g).length), some (.int j)] (h ++ g ++ [.lst (S.map sd3)]) = .ok (.int (3 * (j : Int))) (h ++ g ++ [.lst (S.map sd3)]) := evBin2 (evInt ..) (evV rfl) (bMulL _ (by omega) (by omega))
    have t : ev G cl (.tup (.cons (.ix (.var 4) (.bin .mod (.bin .mul (.int 3) (.var 6)) (.int 21))) (.cons (.ix (.var 4) (.bin .mod (.bin .add (.bin .mul (.int 3) (.var 6)) (.int 1)) (.int 21))) (.cons (.ix (.var 4) (.bin .mod (.bin .add (.bin .mul (.int 3) (.var 6)) (.int 5)) (.int 21))) .nil)))) [some (.ref n), some (.str abS), some (.str one), some (.str oth), some (.ref p), some (.ref (h ++ g).length), some (.int j)] (h ++ g ++ [.lst (S.map sd3)]) = .ok (sd3 (a, b, c)) (h ++ g ++ [.lst (S.map sd3)]) := by
      rw [evTup, evsCons, evIxV (i := 4) rfl (evBin2 m3 (evInt ..) (bMod _ (by omega))) ea, bindOk, evsCons, evIxV (i := 4) rfl (evBin2 (evBin2 m3 (evInt ..) (bAdd ..)) (evInt ..) (bMod _ (by omega))) eb, bindOk, evsCons, evIxV (i := 4) rfl (evBin2 (evBin2 m3 (evInt ..) (bAdd ..)) (evInt ..) (bMod _ (by omega))) ec, bindOk, evsNil]
      rfl
    refine ⟨[some (.ref n), some (.str abS), some (.str one), some (.str oth), some (.ref p), some (.ref (h ++ g).length), some (.int j)], [some (.ref n), some (.str abS), some (.str one), some (.str oth), some (.ref p), some (.ref (h ++ g).length), some (.int j)], h ++ g ++ [.lst ((S ++ [(a, b, c)]).map sd3)], rfl, ?_, S ++ [(a, b, c)], some (.int j), by simp [hS], fun s hs => ?_, rfl, rfl⟩
    · rw [xssNx (r' := [some (.ref n), some (.str abS), some (.str one), some (.str oth), some (.ref p), some (.ref (h ++ g).length), some (.int j)]) (h' := h ++ g ++ [.lst ((S ++ [(a, b, c)]).map sd3)]) (by
        rw [xsEx, evApp, evV (x := .ref (h ++ g).length) rfl, bindOk, if_pos (by rw [isLstR, lstAt_last]; rfl), t, bindOk, app_ok (sd3 (a, b, c)) (get_last _ _) (by rw [List.length_map]; omega), set_last, List.map_append]
        rfl), xssNil]
    · rcases List.mem_append.mp hs with hs | hs
      · exact oS s hs
      · rw [List.mem_singleton.mp hs]
        exact ⟨sa, sb, sc⟩) [some (.ref n), some (.str abS), some (.str one), some (.str oth), some (.ref p), some (.ref (h ++ g).length), none] (h ++ g ++ [.lst []]) ⟨[], none, rfl, (fun s hs => by cases hs), rfl, rfl⟩
  subst er eh
  rw [rngD_len, Nat.zero_add] at hS
  have l3 : lstAt (h ++ g ++ [.lst (S.map sd3)]) p = some (ns.map D.int) := lstAt_app _ _ ln
  obtain ⟨z0, s0, i0⟩ := ixn _ 0 l3 (by omega)
  replace i0 : ixD (.ref p) (.int 0) (h ++ g ++ [.lst (S.map sd3)]) = .ok (.int z0) (h ++ g ++ [.lst (S.map sd3)]) := i0
  obtain ⟨z1, s1, i1⟩ := ixn _ 1 l3 (by omega)
  replace i1 : ixD (.ref p) (.int 1) (h ++ g ++ [.lst (S.map sd3)]) = .ok (.int z1) (h ++ g ++ [.lst (S.map sd3)]) := i1
  obtain ⟨z2, s2, i2⟩ := ixn _ 2 l3 (by omega)
  replace i2 : ixD (.ref p) (.int 2) (h ++ g ++ [.lst (S.map sd3)]) = .ok (.int z2) (h ++ g ++ [.lst (S.map sd3)]) := i2
  refine ⟨.put one z0 z1 z2 S, g ++ [.lst (S.map sd3)], ⟨o1, s0, s1, s2, by omega, oS⟩, ?_⟩
  rw [xssNx (xsFor_r1 (j := (m : Int)) (by
    rw [<- em]
    exact evBin2 (evBin2 (evIxV (i := 0) rfl (evInt ..) (Q.ix kl 0 (by omega))) (evInt ..) (bDiv _ (by omega) (by omega))) (evInt ..) (bMod _ (by omega))) (okR_nat (by omega)) ef)]
  rw [xssRt (d := (Dd.put one z0 z1 z2 S).d) (h' := h ++ g ++ [.lst (S.map sd3)]) (by
    rw [xsRet, evTup, evsCons, evStr, bindOk, evsCons, evV (x := .str one) rfl, bindOk, evsCons, evIxV (i := 4) (d := .int z0) rfl (evInt ..) i0, bindOk, evsCons, evIxV (i := 4) (d := .int z1) rfl (evInt ..) i1, bindOk, evsCons, evIxV (i := 4) (d := .int z2) rfl (evInt ..) i2, bindOk, evsCons, evBl1 (f := .tup) (evs1 (evV (x := .ref (h ++ g).length) rfl)) (tup_at (lstAt_last _ _)), bindOk, evsNil]
    rfl), <- List.append_assoc]
  rfl
abbrev l23 : Ss := (.cons (.asg (.nm 1) (.call 14 (.cons (.call 10 (.cons (.var 0) (.cons (.int 0) (.cons (.int 27) .nil)))) .nil))) (.cons (.asg (.nm 2) (.join " " (.call 12 (.cons (.var 1) .nil)))) (.cons (.ret (.and (.call 11 (.cons (.call 8 (.cons (.var 1) .nil)) (.cons (.var 2) .nil))) (.call 11 (.cons (.call 9 (.cons (.var 2) .nil)) (.cons (.var 1) .nil))))) .nil)))
theorem law23_ok {ns : List Int} (hd : ∃ row : List Int, row.length = 27 /\ InR row /\ cl 10 [.ref 0, .int 0, .int 27] [.ro (ns.map D.int)] = .ok (.ref 1) ([.ro (ns.map D.int)] ++ [.lst (row.map D.int)])) (hy : Ady cl 14) (hw : Dwo cl 12) (ht : Ddt cl 8) (hr : Rdd cl 9) (hs : ∀ (d : D) (h : Hh), pd 3 d = true -> cl 11 [d, d] h = .ok (.bl true) h) :
    ∃ h', (xss G cl W l23 [some (.ref 0), none, none] [.ro (ns.map D.int)]).bind endD = .ok (.bl true) h' := by
  obtain ⟨row, rl, ri, e0⟩ := hd
  obtain ⟨d, g1, od, e1⟩ := hy ([.ro (ns.map D.int)] ++ [.lst (row.map D.int)]) 1 row ⟨lstAt_last [.ro (ns.map D.int)] _, ri⟩ rl
  generalize [O.ro (ns.map D.int)] ++ [.lst (row.map D.int)] ++ g1 = h1 at e1
  obtain ⟨n, g2, e2, l2⟩ := hw h1 d od
  have j := join_at (s := bkS) (l := d.hd :: d.rs) l2 (Nat.le_trans (ws_sum od) (by decide))
  rw [tj] at j
  generalize h1 ++ g2 = h2 at e2 j
  obtain ⟨g3, e3⟩ := ht h2 d od
  obtain ⟨g4, e4⟩ := hr (h2 ++ g3) d od
  have pdd : pd 3 d.d = true := by
    cases d with
    | drop nm => rfl
    | untie i => rfl
    | tie a b m => rfl
    | put nm w t l S =>
      have : pd 2 (.tup (S.map sd3)) = true := by
        show (decide ((S.map sd3).length <= 1000) && (S.map sd3).all (pd 1)) = true
        rw [Bool.and_eq_true, decide_eq_true_eq, List.all_eq_true]
        refine ⟨by rw [List.length_map]; exact Nat.le_trans od.2.2.2.2.1 (by decide), fun x hx => ?_⟩
        obtain ⟨s, _, rfl⟩ := List.mem_map.mp hx
        rfl
      show (decide (6 <= 1000) && [D.str "put", .str nm, .int w, .int t, .int l, .tup (S.map sd3)].all (pd 2)) = true
      simp only [List.all_cons, this, List.all_nil]
      rfl
  refine ⟨h2 ++ g3 ++ g4, ?_⟩
  have c1 : ev G cl (.call 10 (.cons (.var 0) (.cons (.int 0) (.cons (.int 27) .nil)))) [some (.ref 0), none, none] [.ro (ns.map D.int)] = .ok (.ref 1) ([.ro (ns.map D.int)] ++ [.lst (row.map D.int)]) := evCl (by rw [evsCons, evV (x := .ref 0) rfl, bindOk, evsCons, evInt, bindOk, evsCons, evInt, bindOk, evsNil]; rfl) e0
  rw [xssNx (r' := [some (.ref 0), some d.d, none]) (h' := h1) (xsAsgV (evCl (evs1 c1) e1)), xssNx (r' := [some (.ref 0), some d.d, some (.str d.tx)]) (h' := h2) (xsAsgV (by
    rw [evJoin', evC1 (i := 1) rfl e2, bindOk]; exact j))]
  rw [xssRt (xsRetV (d := .bl true) (h' := h2 ++ g3 ++ g4) (by
    rw [evAnd, evCl (evs2 (evC1 (i := 1) rfl e3) (evV rfl)) (hs (.str d.tx) _ rfl), bindOk]
    show ev G cl _ _ _ = _
    exact evCl (evs2 (evC1 (i := 2) rfl e4) (evV rfl)) (hs d.d _ pdd)))]
  rfl
end
end Ng
end
section
namespace Pk23
open PySem L2 Ng
theorem len5 {us : List Value} (h : us.length = 5) : ∃ a b c d e, us = [a, b, c, d, e] := by
  obtain ⟨a, us, rfl⟩ := List.exists_cons_of_length_eq_add_one h
  obtain ⟨b, us, rfl⟩ := List.exists_cons_of_length_eq_add_one (Nat.succ.inj h)
  obtain ⟨c, d, e, rfl⟩ := len3 (Nat.succ.inj (Nat.succ.inj h))
  exact ⟨_, _, _, _, _, rfl⟩
def top (i : Nat) : PySem.Stmt := PySem.Challenge.pw_nightglass_k23_deeds_written_and_read.main.body.getD i (.Pass ⟨0, 0, 0, 0⟩)
def mtop (i k : Nat) : PySem.Stmt := inClass (top i) k
def G : Gs := ⟨("consists_of" :: "is_number" :: "read_word" :: "read_words" :: "read_star" :: "read_plate" :: "numbers_text" :: "plate_text" :: "deed_text" :: "read_deed" :: "_law_draws" :: "_law_same" :: "_law_deed_words" :: "_law_any_number" :: "_law_any_deed" :: "law" :: [] : List Str), [("LETTERS", .str "abcdefghijklmnopqrstuvwxyz"), ("FIGURES", .str "0123456789"), ("MOST_FIGURES", .int (100))], [], [], [], [], [], []⟩
theorem gc0 : G.csts[0]? = some (("LETTERS", .str "abcdefghijklmnopqrstuvwxyz") : Str × D) := rfl
theorem gc1 : G.csts[1]? = some (("FIGURES", .str "0123456789") : Str × D) := rfl
theorem gc2 : G.csts[2]? = some (("MOST_FIGURES", .int (100)) : Str × D) := rfl
def b0 : Ss := (.cons (.ret (.and (.cmp .ne (.var 0) (.str "")) (.blt .all (.cons (.comp (.nm 0) .st (.cons (.var 0) .nil) .nil (.cmp .inn (.var 0) (.var 1)) ["sign", "signs"] [1]) .nil)))) .nil)
def b1 : Ss := (.cons (.asg (.nm 1) (.ite (.stw (.var 0) "-") (.slZ (.var 0) (.int 1)) (.var 0))) (.cons (.iff (.or (.not (.call 0 (.cons (.var 1) (.cons (.gc 1) .nil)))) (.cmp .gt (.blt .len (.cons (.var 1) .nil)) (.gc 2))) (.cons (.ret (.bl false)) .nil) .nil) (.cons (.ret (.or (.cmp .eq (.var 0) (.str "0")) (.not (.stw (.var 1) "0")))) .nil)))
def b2 : Ss := (.cons (.iff (.and (.cmp .eq (.var 1) (.str "name")) (.call 0 (.cons (.var 0) (.cons (.gc 0) .nil)))) (.cons (.ret (.var 0)) .nil) .nil) (.cons (.iff (.and (.cmp .eq (.var 1) (.str "number")) (.call 1 (.cons (.var 0) .nil))) (.cons (.ret (.itx (.var 0))) .nil) .nil) (.cons .never .nil)))
def b3 : Ss := (.cons (.iff (.cmp .ne (.blt .len (.cons (.var 0) .nil)) (.blt .len (.cons (.var 1) .nil))) (.cons .never .nil) .nil) (.cons (.ret (.comp (.tp [0, 1]) .zp (.cons (.var 0) (.cons (.var 1) .nil)) .nil (.call 2 (.cons (.var 0) (.cons (.var 1) .nil))) ["word", "kind"] [])) .nil))
def b4 : Ss := (.cons (.ret (.blt .tup (.cons (.call 3 (.cons (.spl (.var 0) ",") (.cons (.tup (.cons (.str "number") (.cons (.str "number") (.cons (.str "number") .nil)))) .nil))) .nil))) .nil)
def b5 : Ss := (.cons (.asgL [1, 2, 3, 4] (.call 3 (.cons (.slU (.var 0) (.int 4)) (.cons (.tup (.cons (.str "name") (.cons (.str "number") (.cons (.str "number") (.cons (.str "number") .nil))))) .nil)))) (.cons (.ret (.tup (.cons (.var 1) (.cons (.var 2) (.cons (.var 3) (.cons (.var 4) (.cons (.blt .tup (.cons (.comp (.nm 0) .sq (.cons (.slL (.var 0) (.int 4)) .nil) .nil (.call 4 (.cons (.var 0) .nil)) ["word"] []) .nil)) .nil))))))) .nil))
def b6 : Ss := (.cons (.ret (.join " " (.comp (.nm 0) .sq (.cons (.var 0) .nil) .nil (.sof (.var 0)) ["number"] []))) .nil)
def b7 : Ss := (.cons (.asc 5 (.comp (.tp [0, 1, 2]) .sq (.cons (.var 4) .nil) .nil (.fst (.cons (.fmt (.var 0)) (.cons (.str ",") (.cons (.fmt (.var 1)) (.cons (.str ",") (.cons (.fmt (.var 2)) .nil)))))) ["x", "y", "bright"] [])) (.cons (.ret (.join " " (.bin .add (.lst (.cons (.var 0) (.cons (.call 6 (.cons (.lst (.cons (.var 1) (.cons (.var 2) (.cons (.var 3) .nil)))) .nil)) .nil))) (.var 5)))) .nil))
def b8 : Ss := (.cons (.asgS 1 2 (.var 0)) (.cons (.iff (.cmp .eq (.var 1) (.str "put")) (.cons (.asgL [3, 4, 5, 6, 7] (.var 2)) (.cons (.ret (.fst (.cons (.str "put ") (.cons (.fmt (.call 7 (.cons (.var 3) (.cons (.var 4) (.cons (.var 5) (.cons (.var 6) (.cons (.var 7) .nil))))))) .nil)))) .nil)) .nil) (.cons (.iff (.cmp .eq (.var 1) (.str "tie")) (.cons (.asgL [8, 9, 10] (.var 2)) (.cons (.ret (.fst (.cons (.str "tie ") (.cons (.fmt (.var 8)) (.cons (.str " ") (.cons (.fmt (.var 9)) (.cons (.str " ") (.cons (.fmt (.call 6 (.cons (.var 10) .nil))) .nil)))))))) .nil)) .nil) (.cons (.ret (.fst (.cons (.fmt (.var 1)) (.cons (.str " ") (.cons (.fmt (.ix (.var 2) (.int 0))) .nil))))) .nil))))
def b9 : Ss := (.cons (.asgS 1 2 (.spl (.var 0) " ")) (.cons (.iff (.cmp .eq (.var 1) (.str "put")) (.cons (.ret (.bin .add (.tup (.cons (.str "put") .nil)) (.call 5 (.cons (.var 2) .nil)))) .nil) .nil) (.cons (.iff (.cmp .eq (.var 1) (.str "drop")) (.cons (.ret (.tup (.cons (.str "drop") (.cons (.ix (.call 3 (.cons (.var 2) (.cons (.tup (.cons (.str "name") .nil)) .nil))) (.int 0)) .nil)))) .nil) .nil) (.cons (.iff (.cmp .eq (.var 1) (.str "tie")) (.cons (.asgL [3, 4, 5, 6, 7] (.call 3 (.cons (.var 2) (.cons (.tup (.cons (.str "name") (.cons (.str "name") (.cons (.str "number") (.cons (.str "number") (.cons (.str "number") .nil)))))) .nil)))) (.cons (.ret (.tup (.cons (.str "tie") (.cons (.var 3) (.cons (.var 4) (.cons (.tup (.cons (.var 5) (.cons (.var 6) (.cons (.var 7) .nil)))) .nil)))))) .nil)) .nil) (.cons (.iff (.cmp .eq (.var 1) (.str "untie")) (.cons (.ret (.tup (.cons (.str "untie") (.cons (.ix (.call 3 (.cons (.var 2) (.cons (.tup (.cons (.str "number") .nil)) .nil))) (.int 0)) .nil)))) .nil) .nil) (.cons .never .nil))))))
def b10 : Ss := (.cons (.asg (.nm 3) (.bin .add (.bin .mul (.int 7) (.var 1)) (.int 1))) (.cons (.iff (.cmp .lt (.var 1) (.blt .len (.cons (.var 0) .nil))) (.cons (.asg (.nm 3) (.ix (.var 0) (.var 1))) .nil) (.cons (.iff (.cmp .gt (.blt .len (.cons (.var 0) .nil)) (.int 0)) (.cons (.asg (.nm 3) (.bin .add (.bin .add (.bin .mod (.ix (.var 0) (.bin .mod (.var 1) (.blt .len (.cons (.var 0) .nil)))) (.int 999983)) (.bin .mul (.bin .mul (.var 1) (.var 1)) (.int 97))) (.int 1))) .nil) .nil) .nil)) (.cons (.asg (.nm 4) (.bin .add (.bin .add (.bin .mod (.var 3) (.int 999983)) (.bin .mul (.int 31) (.var 1))) (.int 5))) (.cons (.asg (.nm 5) (.lst .nil)) (.cons (.iff (.cmp .ge (.var 3) (.bin .pow (.int 10) (.int 18))) (.cons (.whl (.and (.cmp .gt (.var 3) (.int 0)) (.cmp .lt (.blt .len (.cons (.var 5) .nil)) (.var 2))) (.cons (.ex (.app (.var 5) (.bin .mod (.var 3) (.int 1013)))) (.cons (.asg (.nm 3) (.bin .fdiv (.var 3) (.int 1013))) .nil))) .nil) .nil) (.cons (.whl (.cmp .lt (.blt .len (.cons (.var 5) .nil)) (.var 2)) (.cons (.asg (.nm 6) (.bin .add (.blt .len (.cons (.var 5) .nil)) (.int 1))) (.cons (.asg (.nm 4) (.bin .mod (.bin .add (.bin .add (.bin .mul (.var 4) (.int 48271)) (.bin .mul (.bin .mul (.var 6) (.var 6)) (.int 6133))) (.int 17)) (.int 2147483647))) (.cons (.ex (.app (.var 5) (.bin .mod (.bin .mod (.bin .mul (.bin .mod (.var 4) (.int 65521)) (.bin .add (.bin .mod (.bin .fdiv (.var 4) (.int 65521)) (.int 32749)) (.int 1))) (.int 1000003)) (.int 1013)))) .nil)))) (.cons (.ret (.var 5)) .nil)))))))
def b11 : Ss := (.cons (.iff (.blt .isinst (.cons (.var 1) (.cons (.tup (.cons (.ty .tuple) (.cons (.ty .list) .nil))) .nil))) (.cons (.iff (.or (.cmp .ne (.blt .isinst (.cons (.var 1) (.cons (.ty .tuple) .nil))) (.blt .isinst (.cons (.var 0) (.cons (.ty .tuple) .nil)))) (.cmp .ne (.blt .isinst (.cons (.var 1) (.cons (.ty .list) .nil))) (.blt .isinst (.cons (.var 0) (.cons (.ty .list) .nil))))) (.cons (.ret (.bl false)) .nil) .nil) (.cons (.iff (.cmp .ne (.blt .len (.cons (.var 0) .nil)) (.blt .len (.cons (.var 1) .nil))) (.cons (.ret (.bl false)) .nil) .nil) (.cons (.forr (.nm 2) (.r1 (.blt .len (.cons (.var 1) .nil))) (.cons (.iff (.not (.call 11 (.cons (.ix (.var 0) (.var 2)) (.cons (.ix (.var 1) (.var 2)) .nil)))) (.cons (.ret (.bl false)) .nil) .nil) .nil)) (.cons (.ret (.bl true)) .nil)))) .nil) (.cons (.iff (.cmp .is (.var 1) .non) (.cons (.ret (.cmp .is (.var 0) .non)) .nil) .nil) (.cons (.iff (.or (.blt .isinst (.cons (.var 1) (.cons (.ty .bool) .nil))) (.blt .isinst (.cons (.var 0) (.cons (.ty .bool) .nil)))) (.cons (.ret (.and (.blt .isinst (.cons (.var 1) (.cons (.ty .bool) .nil))) (.and (.blt .isinst (.cons (.var 0) (.cons (.ty .bool) .nil))) (.cmp .eq (.var 0) (.var 1))))) .nil) .nil) (.cons (.iff (.blt .isinst (.cons (.var 1) (.cons (.ty .int) .nil))) (.cons (.ret (.and (.blt .isinst (.cons (.var 0) (.cons (.ty .int) .nil))) (.cmp .eq (.var 0) (.var 1)))) .nil) .nil) (.cons (.ret (.and (.blt .isinst (.cons (.var 0) (.cons (.ty .str) .nil))) (.cmp .eq (.var 0) (.var 1)))) .nil)))))
def b12 : Ss := (.cons (.iff (.cmp .eq (.ix (.var 0) (.int 0)) (.str "put")) (.cons (.asc 1 (.comp (.nm 0) .sq (.cons (.slT (.var 0) (.int 5)) .nil) .nil (.sof (.var 0)) ["_law_part"] [])) (.cons (.ret (.bin .add (.var 1) (.comp (.nm 0) .sq (.cons (.ix (.var 0) (.int 5)) .nil) .nil (.bin .add (.bin .add (.bin .add (.bin .add (.sof (.ix (.var 0) (.int 0))) (.str ",")) (.sof (.ix (.var 0) (.int 1)))) (.str ",")) (.sof (.ix (.var 0) (.int 2)))) ["_law_star"] []))) .nil)) .nil) (.cons (.iff (.cmp .eq (.ix (.var 0) (.int 0)) (.str "tie")) (.cons (.ret (.comp (.nm 0) .sq (.cons (.bin .add (.slT (.var 0) (.int 3)) (.ix (.var 0) (.int 3))) .nil) .nil (.sof (.var 0)) ["_law_part"] [])) .nil) .nil) (.cons (.ret (.comp (.nm 0) .sq (.cons (.var 0) .nil) .nil (.sof (.var 0)) ["_law_part"] [])) .nil)))
def b13 : Ss := (.cons (.iff (.cmp .eq (.bin .mod (.var 0) (.int 4)) (.int 0)) (.cons (.ret (.bin .sub (.bin .mod (.bin .fdiv (.var 0) (.int 4)) (.int 21)) (.int 10))) .nil) .nil) (.cons (.iff (.cmp .eq (.bin .mod (.var 0) (.int 4)) (.int 1)) (.cons (.ret (.bin .mul (.bin .sub (.var 1) (.int 506)) (.itx (.bin .add (.str "1") (.rep (.str "0") (.bin .mod (.bin .fdiv (.var 0) (.int 4)) (.int 97))))))) .nil) .nil) (.cons (.ret (.bin .sub (.bin .add (.bin .mul (.var 0) (.int 1013)) (.var 1)) (.int 513000))) .nil)))
def b14 : Ss := (.cons (.asg (.nm 1) (.str "abcdefghijklmnopqrstuvwxyz")) (.cons (.asg (.nm 2) (.join "" (.comp (.nm 0) .r1 (.cons (.bin .add (.int 1) (.bin .mod (.ix (.var 0) (.int 3)) (.int 12))) .nil) .nil (.ix (.var 1) (.bin .mod (.bin .add (.ix (.var 2) (.int 1)) (.bin .mul (.var 0) (.ix (.var 2) (.int 2)))) (.int 26))) ["_law_k", "_law_letters", "_law_d"] [1, 0]))) (.cons (.asg (.nm 3) (.join "" (.comp (.nm 0) .r1 (.cons (.bin .add (.int 1) (.bin .mod (.ix (.var 0) (.int 4)) (.int 9))) .nil) .nil (.ix (.var 1) (.bin .mod (.bin .add (.ix (.var 2) (.int 2)) (.bin .mul (.var 0) (.ix (.var 2) (.int 1)))) (.int 26))) ["_law_k", "_law_letters", "_law_d"] [1, 0]))) (.cons (.asc 4 (.comp (.nm 0) .r2 (.cons (.int 5) (.cons (.int 26) .nil)) .nil (.call 13 (.cons (.ix (.var 1) (.var 0)) (.cons (.ix (.var 1) (.bin .add (.var 0) (.int 1))) .nil))) ["_law_k", "_law_d"] [0])) (.cons (.iff (.cmp .eq (.bin .mod (.ix (.var 0) (.int 0)) (.int 4)) (.int 0)) (.cons (.ret (.tup (.cons (.str "drop") (.cons (.var 2) .nil)))) .nil) .nil) (.cons (.iff (.cmp .eq (.bin .mod (.ix (.var 0) (.int 0)) (.int 4)) (.int 1)) (.cons (.ret (.tup (.cons (.str "untie") (.cons (.ix (.var 4) (.int 0)) .nil)))) .nil) .nil) (.cons (.iff (.cmp .eq (.bin .mod (.ix (.var 0) (.int 0)) (.int 4)) (.int 2)) (.cons (.ret (.tup (.cons (.str "tie") (.cons (.var 2) (.cons (.var 3) (.cons (.tup (.cons (.ix (.var 4) (.int 0)) (.cons (.ix (.var 4) (.int 1)) (.cons (.ix (.var 4) (.int 2)) .nil)))) .nil)))))) .nil) .nil) (.cons (.asg (.nm 5) (.lst .nil)) (.cons (.forr (.nm 6) (.r1 (.bin .mod (.bin .fdiv (.ix (.var 0) (.int 0)) (.int 4)) (.int 11))) (.cons (.ex (.app (.var 5) (.tup (.cons (.ix (.var 4) (.bin .mod (.bin .mul (.int 3) (.var 6)) (.int 21))) (.cons (.ix (.var 4) (.bin .mod (.bin .add (.bin .mul (.int 3) (.var 6)) (.int 1)) (.int 21))) (.cons (.ix (.var 4) (.bin .mod (.bin .add (.bin .mul (.int 3) (.var 6)) (.int 5)) (.int 21))) .nil)))))) .nil)) (.cons (.ret (.tup (.cons (.str "put") (.cons (.var 2) (.cons (.ix (.var 4) (.int 0)) (.cons (.ix (.var 4) (.int 1)) (.cons (.ix (.var 4) (.int 2)) (.cons (.blt .tup (.cons (.var 5) .nil)) .nil)))))))) .nil))))))))))
def b15 : Ss := (.cons (.asg (.nm 1) (.call 14 (.cons (.call 10 (.cons (.var 0) (.cons (.int 0) (.cons (.int 27) .nil)))) .nil))) (.cons (.asg (.nm 2) (.join " " (.call 12 (.cons (.var 1) .nil)))) (.cons (.ret (.and (.call 11 (.cons (.call 8 (.cons (.var 1) .nil)) (.cons (.var 2) .nil))) (.call 11 (.cons (.call 9 (.cons (.var 2) .nil)) (.cons (.var 1) .nil))))) .nil)))
def T : Nat -> Option Fc
  | 0 => some ⟨2, 2, b0⟩
  | 1 => some ⟨1, 2, b1⟩
  | 2 => some ⟨2, 2, b2⟩
  | 3 => some ⟨2, 2, b3⟩
  | 4 => some ⟨1, 1, b4⟩
  | 5 => some ⟨1, 5, b5⟩
  | 6 => some ⟨1, 1, b6⟩
  | 7 => some ⟨5, 6, b7⟩
  | 8 => some ⟨1, 11, b8⟩
  | 9 => some ⟨1, 8, b9⟩
  | 10 => some ⟨3, 7, b10⟩
  | 11 => some ⟨2, 3, b11⟩
  | 12 => some ⟨1, 2, b12⟩
  | 13 => some ⟨2, 2, b13⟩
  | 14 => some ⟨1, 7, b14⟩
  | 15 => some ⟨1, 3, b15⟩
  | _ => none
theorem sc0 : FnScope ["word", "signs"] ["word", "signs"] (defScope (top 7)) := ⟨rfl, rfl, rfl, by decide +kernel, rfl, by decide +kernel, by decide +kernel⟩
set_option maxHeartbeats 0 in
theorem ck0 : SSs ["word", "signs"] (defScope (top 7)) G b0 (defBody (top 7)) := (ds_cons (dS_ret (dE_and (dE_cmp rfl (dE_var rfl (by decide +kernel)) dE_str) (dE_blt (by decide +kernel) (sa_cons rfl (dE_comp (blk_of (by decide +kernel)) rfl (by decide +kernel) (it_st (dE_var rfl (by decide +kernel))) sb_nil (dE_cmp rfl (dE_var rfl (by decide +kernel)) (dE_var rfl (by decide +kernel)))) sa_nil)))) ds_nil)
theorem sc1 : FnScope ["word", "figures"] ["word"] (defScope (top 8)) := ⟨rfl, rfl, rfl, by decide +kernel, rfl, by decide +kernel, by decide +kernel⟩
set_option maxHeartbeats 0 in
theorem ck1 : SSs ["word", "figures"] (defScope (top 8)) G b1 (defBody (top 8)) := (ds_cons (dS_asgN rfl (by decide +kernel) rfl (dE_ite (dE_stw rfl (dE_var rfl (by decide +kernel))) (dE_slZ (dE_var rfl (by decide +kernel)) dE_int) (dE_var rfl (by decide +kernel)))) (ds_cons (dS_iff (dE_or (dE_not (dE_call rfl (by decide +kernel) (sa_cons rfl (dE_var rfl (by decide +kernel)) (sa_cons rfl (dE_gc gc1 (by decide +kernel)) sa_nil)))) (dE_cmp rfl (dE_blt (by decide +kernel) (sa_cons rfl (dE_var rfl (by decide +kernel)) sa_nil)) (dE_gc gc2 (by decide +kernel)))) (ds_cons (dS_ret dE_bl) ds_nil) ds_nil) (ds_cons (dS_ret (dE_or (dE_cmp rfl (dE_var rfl (by decide +kernel)) dE_str) (dE_not (dE_stw rfl (dE_var rfl (by decide +kernel)))))) ds_nil)))
theorem sc2 : FnScope ["word", "kind"] ["word", "kind"] (defScope (top 9)) := ⟨rfl, rfl, rfl, by decide +kernel, rfl, by decide +kernel, by decide +kernel⟩
set_option maxHeartbeats 0 in
theorem ck2 : SSs ["word", "kind"] (defScope (top 9)) G b2 (defBody (top 9)) := (ds_cons (dS_iff (dE_and (dE_cmp rfl (dE_var rfl (by decide +kernel)) dE_str) (dE_call rfl (by decide +kernel) (sa_cons rfl (dE_var rfl (by decide +kernel)) (sa_cons rfl (dE_gc gc0 (by decide +kernel)) sa_nil)))) (ds_cons (dS_ret (dE_var rfl (by decide +kernel))) ds_nil) ds_nil) (ds_cons (dS_iff (dE_and (dE_cmp rfl (dE_var rfl (by decide +kernel)) dE_str) (dE_call rfl (by decide +kernel) (sa_cons rfl (dE_var rfl (by decide +kernel)) sa_nil))) (ds_cons (dS_ret (dE_itx (by decide +kernel) rfl (dE_var rfl (by decide +kernel)))) ds_nil) ds_nil) (ds_cons dS_never ds_nil)))
theorem sc3 : FnScope ["words", "kinds"] ["words", "kinds"] (defScope (top 10)) := ⟨rfl, rfl, rfl, by decide +kernel, rfl, by decide +kernel, by decide +kernel⟩
set_option maxHeartbeats 0 in
theorem ck3 : SSs ["words", "kinds"] (defScope (top 10)) G b3 (defBody (top 10)) := (ds_cons (dS_iff (dE_cmp rfl (dE_blt (by decide +kernel) (sa_cons rfl (dE_var rfl (by decide +kernel)) sa_nil)) (dE_blt (by decide +kernel) (sa_cons rfl (dE_var rfl (by decide +kernel)) sa_nil))) (ds_cons dS_never ds_nil) ds_nil) (ds_cons (dS_ret (dE_comp (blk_of (by decide +kernel)) rfl (by decide +kernel) (it_zp (by decide +kernel) (sa_cons rfl (dE_var rfl (by decide +kernel)) (sa_cons rfl (dE_var rfl (by decide +kernel)) sa_nil))) sb_nil (dE_call rfl (by decide +kernel) (sa_cons rfl (dE_var rfl (by decide +kernel)) (sa_cons rfl (dE_var rfl (by decide +kernel)) sa_nil))))) ds_nil))
theorem sc4 : FnScope ["word"] ["word"] (defScope (top 11)) := ⟨rfl, rfl, rfl, by decide +kernel, rfl, by decide +kernel, by decide +kernel⟩
set_option maxHeartbeats 0 in
theorem ck4 : SSs ["word"] (defScope (top 11)) G b4 (defBody (top 11)) := (ds_cons (dS_ret (dE_blt (by decide +kernel) (sa_cons rfl (dE_call rfl (by decide +kernel) (sa_cons rfl (dE_spl rfl (dE_var rfl (by decide +kernel))) (sa_cons rfl (dE_tup (sa_cons rfl dE_str (sa_cons rfl dE_str (sa_cons rfl dE_str sa_nil)))) sa_nil))) sa_nil))) ds_nil)
theorem sc5 : FnScope ["words", "name", "width", "height", "limit"] ["words"] (defScope (top 12)) := ⟨rfl, rfl, rfl, by decide +kernel, rfl, by decide +kernel, by decide +kernel⟩
set_option maxHeartbeats 0 in
theorem ck5 : SSs ["words", "name", "width", "height", "limit"] (defScope (top 12)) G b5 (defBody (top 12)) := (ds_cons (dS_asgL (by decide +kernel) rfl (fun _ => rfl) (dE_call rfl (by decide +kernel) (sa_cons rfl (dE_slU (dE_var rfl (by decide +kernel)) dE_int) (sa_cons rfl (dE_tup (sa_cons rfl dE_str (sa_cons rfl dE_str (sa_cons rfl dE_str (sa_cons rfl dE_str sa_nil))))) sa_nil)))) (ds_cons (dS_ret (dE_tup (sa_cons rfl (dE_var rfl (by decide +kernel)) (sa_cons rfl (dE_var rfl (by decide +kernel)) (sa_cons rfl (dE_var rfl (by decide +kernel)) (sa_cons rfl (dE_var rfl (by decide +kernel)) (sa_cons rfl (dE_blt (by decide +kernel) (sa_cons rfl (dE_comp (blk_of (by decide +kernel)) rfl (by decide +kernel) (it_sq (dE_slL (dE_var rfl (by decide +kernel)) dE_int)) sb_nil (dE_call rfl (by decide +kernel) (sa_cons rfl (dE_var rfl (by decide +kernel)) sa_nil))) sa_nil)) sa_nil))))))) ds_nil))
theorem sc6 : FnScope ["numbers"] ["numbers"] (defScope (top 13)) := ⟨rfl, rfl, rfl, by decide +kernel, rfl, by decide +kernel, by decide +kernel⟩
set_option maxHeartbeats 0 in
theorem ck6 : SSs ["numbers"] (defScope (top 13)) G b6 (defBody (top 13)) := (ds_cons (dS_ret (dE_join rfl rfl (dE_comp (blk_of (by decide +kernel)) rfl (by decide +kernel) (it_sq (dE_var rfl (by decide +kernel))) sb_nil (dE_sof (by decide +kernel) rfl (dE_var rfl (by decide +kernel)))))) ds_nil)
theorem sc7 : FnScope ["name", "width", "height", "limit", "stars", "star_words"] ["name", "width", "height", "limit", "stars"] (defScope (top 14)) := ⟨rfl, rfl, rfl, by decide +kernel, rfl, by decide +kernel, by decide +kernel⟩
set_option maxHeartbeats 0 in
theorem ck7 : SSs ["name", "width", "height", "limit", "stars", "star_words"] (defScope (top 14)) G b7 (defBody (top 14)) := (ds_cons (dS_asc rfl (by decide +kernel) (by decide +kernel) (by decide +kernel) (blk_of (by decide +kernel)) rfl (by decide +kernel) (it_sq (dE_var rfl (by decide +kernel))) sb_nil (dE_fst (sj_cons (dE_fmt (dE_var rfl (by decide +kernel))) (sj_cons dE_str (sj_cons (dE_fmt (dE_var rfl (by decide +kernel))) (sj_cons dE_str (sj_cons (dE_fmt (dE_var rfl (by decide +kernel))) sj_nil))))))) (ds_cons (dS_ret (dE_join rfl rfl (dE_bin (dE_lst (sa_cons rfl (dE_var rfl (by decide +kernel)) (sa_cons rfl (dE_call rfl (by decide +kernel) (sa_cons rfl (dE_lst (sa_cons rfl (dE_var rfl (by decide +kernel)) (sa_cons rfl (dE_var rfl (by decide +kernel)) (sa_cons rfl (dE_var rfl (by decide +kernel)) sa_nil)))) sa_nil)) sa_nil))) (dE_var rfl (by decide +kernel))))) ds_nil))
theorem sc8 : FnScope ["deed", "word", "rest", "name", "width", "height", "limit", "stars", "one", "other", "motion"] ["deed"] (defScope (top 15)) := ⟨rfl, rfl, rfl, by decide +kernel, rfl, by decide +kernel, by decide +kernel⟩
set_option maxHeartbeats 0 in
theorem ck8 : SSs ["deed", "word", "rest", "name", "width", "height", "limit", "stars", "one", "other", "motion"] (defScope (top 15)) G b8 (defBody (top 15)) := (ds_cons (dS_asgS rfl rfl (by decide +kernel) rfl (fun _ => rfl) (dE_var rfl (by decide +kernel))) (ds_cons (dS_iff (dE_cmp rfl (dE_var rfl (by decide +kernel)) dE_str) (ds_cons (dS_asgL (by decide +kernel) rfl (fun _ => rfl) (dE_var rfl (by decide +kernel))) (ds_cons (dS_ret (dE_fst (sj_cons dE_str (sj_cons (dE_fmt (dE_call rfl (by decide +kernel) (sa_cons rfl (dE_var rfl (by decide +kernel)) (sa_cons rfl (dE_var rfl (by decide +kernel)) (sa_cons rfl (dE_var rfl (by decide +kernel)) (sa_cons rfl (dE_var rfl (by decide +kernel)) (sa_cons rfl (dE_var rfl (by decide +kernel)) sa_nil))))))) sj_nil)))) ds_nil)) ds_nil) (ds_cons (dS_iff (dE_cmp rfl (dE_var rfl (by decide +kernel)) dE_str) (ds_cons (dS_asgL (by decide +kernel) rfl (fun _ => rfl) (dE_var rfl (by decide +kernel))) (ds_cons (dS_ret (dE_fst (sj_cons dE_str (sj_cons (dE_fmt (dE_var rfl (by decide +kernel))) (sj_cons dE_str (sj_cons (dE_fmt (dE_var rfl (by decide +kernel))) (sj_cons dE_str (sj_cons (dE_fmt (dE_call rfl (by decide +kernel) (sa_cons rfl (dE_var rfl (by decide +kernel)) sa_nil))) sj_nil)))))))) ds_nil)) ds_nil) (ds_cons (dS_ret (dE_fst (sj_cons (dE_fmt (dE_var rfl (by decide +kernel))) (sj_cons dE_str (sj_cons (dE_fmt (dE_ix (fun _ _ => rfl) (dE_var rfl (by decide +kernel)) dE_int)) sj_nil))))) ds_nil))))
theorem sc9 : FnScope ["text", "word", "rest", "one", "other", "turn", "right", "up"] ["text"] (defScope (top 16)) := ⟨rfl, rfl, rfl, by decide +kernel, rfl, by decide +kernel, by decide +kernel⟩
set_option maxHeartbeats 0 in
theorem ck9 : SSs ["text", "word", "rest", "one", "other", "turn", "right", "up"] (defScope (top 16)) G b9 (defBody (top 16)) := (ds_cons (dS_asgS rfl rfl (by decide +kernel) rfl (fun _ => rfl) (dE_spl rfl (dE_var rfl (by decide +kernel)))) (ds_cons (dS_iff (dE_cmp rfl (dE_var rfl (by decide +kernel)) dE_str) (ds_cons (dS_ret (dE_bin (dE_tup (sa_cons rfl dE_str sa_nil)) (dE_call rfl (by decide +kernel) (sa_cons rfl (dE_var rfl (by decide +kernel)) sa_nil)))) ds_nil) ds_nil) (ds_cons (dS_iff (dE_cmp rfl (dE_var rfl (by decide +kernel)) dE_str) (ds_cons (dS_ret (dE_tup (sa_cons rfl dE_str (sa_cons rfl (dE_ix (fun _ _ => rfl) (dE_call rfl (by decide +kernel) (sa_cons rfl (dE_var rfl (by decide +kernel)) (sa_cons rfl (dE_tup (sa_cons rfl dE_str sa_nil)) sa_nil))) dE_int) sa_nil)))) ds_nil) ds_nil) (ds_cons (dS_iff (dE_cmp rfl (dE_var rfl (by decide +kernel)) dE_str) (ds_cons (dS_asgL (by decide +kernel) rfl (fun _ => rfl) (dE_call rfl (by decide +kernel) (sa_cons rfl (dE_var rfl (by decide +kernel)) (sa_cons rfl (dE_tup (sa_cons rfl dE_str (sa_cons rfl dE_str (sa_cons rfl dE_str (sa_cons rfl dE_str (sa_cons rfl dE_str sa_nil)))))) sa_nil)))) (ds_cons (dS_ret (dE_tup (sa_cons rfl dE_str (sa_cons rfl (dE_var rfl (by decide +kernel)) (sa_cons rfl (dE_var rfl (by decide +kernel)) (sa_cons rfl (dE_tup (sa_cons rfl (dE_var rfl (by decide +kernel)) (sa_cons rfl (dE_var rfl (by decide +kernel)) (sa_cons rfl (dE_var rfl (by decide +kernel)) sa_nil)))) sa_nil)))))) ds_nil)) ds_nil) (ds_cons (dS_iff (dE_cmp rfl (dE_var rfl (by decide +kernel)) dE_str) (ds_cons (dS_ret (dE_tup (sa_cons rfl dE_str (sa_cons rfl (dE_ix (fun _ _ => rfl) (dE_call rfl (by decide +kernel) (sa_cons rfl (dE_var rfl (by decide +kernel)) (sa_cons rfl (dE_tup (sa_cons rfl dE_str sa_nil)) sa_nil))) dE_int) sa_nil)))) ds_nil) ds_nil) (ds_cons dS_never ds_nil))))))
theorem sc10 : FnScope ["_law_script", "_law_at", "_law_many", "_law_cell", "_law_seed", "_law_row", "_law_mark"] ["_law_script", "_law_at", "_law_many"] (defScope (top 18)) := ⟨rfl, rfl, rfl, by decide +kernel, rfl, by decide +kernel, by decide +kernel⟩
set_option maxHeartbeats 0 in
theorem ck10 : SSs ["_law_script", "_law_at", "_law_many", "_law_cell", "_law_seed", "_law_row", "_law_mark"] (defScope (top 18)) G b10 (defBody (top 18)) := (ds_cons (dS_asgN rfl (by decide +kernel) rfl (dE_bin (dE_bin dE_int (dE_var rfl (by decide +kernel))) dE_int)) (ds_cons (dS_iff (dE_cmp rfl (dE_var rfl (by decide +kernel)) (dE_blt (by decide +kernel) (sa_cons rfl (dE_var rfl (by decide +kernel)) sa_nil))) (ds_cons (dS_asgN rfl (by decide +kernel) rfl (dE_ix (fun _ _ => rfl) (dE_var rfl (by decide +kernel)) (dE_var rfl (by decide +kernel)))) ds_nil) (ds_cons (dS_iff (dE_cmp rfl (dE_blt (by decide +kernel) (sa_cons rfl (dE_var rfl (by decide +kernel)) sa_nil)) dE_int) (ds_cons (dS_asgN rfl (by decide +kernel) rfl (dE_bin (dE_bin (dE_bin (dE_ix (fun _ _ => rfl) (dE_var rfl (by decide +kernel)) (dE_bin (dE_var rfl (by decide +kernel)) (dE_blt (by decide +kernel) (sa_cons rfl (dE_var rfl (by decide +kernel)) sa_nil)))) dE_int) (dE_bin (dE_bin (dE_var rfl (by decide +kernel)) (dE_var rfl (by decide +kernel))) dE_int)) dE_int)) ds_nil) ds_nil) ds_nil)) (ds_cons (dS_asgN rfl (by decide +kernel) rfl (dE_bin (dE_bin (dE_bin (dE_var rfl (by decide +kernel)) dE_int) (dE_bin dE_int (dE_var rfl (by decide +kernel)))) dE_int)) (ds_cons (dS_asgN rfl (by decide +kernel) rfl (dE_lst sa_nil)) (ds_cons (dS_iff (dE_cmp rfl (dE_var rfl (by decide +kernel)) (dE_bin dE_int dE_int)) (ds_cons (dS_whl (dE_and (dE_cmp rfl (dE_var rfl (by decide +kernel)) dE_int) (dE_cmp rfl (dE_blt (by decide +kernel) (sa_cons rfl (dE_var rfl (by decide +kernel)) sa_nil)) (dE_var rfl (by decide +kernel)))) (ds_cons (dS_ex rfl (dE_app rfl rfl (dE_var rfl (by decide +kernel)) (dE_bin (dE_var rfl (by decide +kernel)) dE_int))) (ds_cons (dS_asgN rfl (by decide +kernel) rfl (dE_bin (dE_var rfl (by decide +kernel)) dE_int)) ds_nil))) ds_nil) ds_nil) (ds_cons (dS_whl (dE_cmp rfl (dE_blt (by decide +kernel) (sa_cons rfl (dE_var rfl (by decide +kernel)) sa_nil)) (dE_var rfl (by decide +kernel))) (ds_cons (dS_asgN rfl (by decide +kernel) rfl (dE_bin (dE_blt (by decide +kernel) (sa_cons rfl (dE_var rfl (by decide +kernel)) sa_nil)) dE_int)) (ds_cons (dS_asgN rfl (by decide +kernel) rfl (dE_bin (dE_bin (dE_bin (dE_bin (dE_var rfl (by decide +kernel)) dE_int) (dE_bin (dE_bin (dE_var rfl (by decide +kernel)) (dE_var rfl (by decide +kernel))) dE_int)) dE_int) dE_int)) (ds_cons (dS_ex rfl (dE_app rfl rfl (dE_var rfl (by decide +kernel)) (dE_bin (dE_bin (dE_bin (dE_bin (dE_var rfl (by decide +kernel)) dE_int) (dE_bin (dE_bin (dE_bin (dE_var rfl (by decide +kernel)) dE_int) dE_int) dE_int)) dE_int) dE_int))) ds_nil)))) (ds_cons (dS_ret (dE_var rfl (by decide +kernel))) ds_nil)))))))
theorem sc11 : FnScope ["_law_found", "_law_due", "_law_k"] ["_law_found", "_law_due"] (defScope (top 19)) := ⟨rfl, rfl, rfl, by decide +kernel, rfl, by decide +kernel, by decide +kernel⟩
set_option maxHeartbeats 0 in
theorem ck11 : SSs ["_law_found", "_law_due", "_law_k"] (defScope (top 19)) G b11 (defBody (top 19)) := (ds_cons (dS_iff (dE_blt (by decide +kernel) (sa_cons rfl (dE_var rfl (by decide +kernel)) (sa_cons rfl (dE_tup (sa_cons rfl (dE_ty (by decide +kernel)) (sa_cons rfl (dE_ty (by decide +kernel)) sa_nil))) sa_nil))) (ds_cons (dS_iff (dE_or (dE_cmp rfl (dE_blt (by decide +kernel) (sa_cons rfl (dE_var rfl (by decide +kernel)) (sa_cons rfl (dE_ty (by decide +kernel)) sa_nil))) (dE_blt (by decide +kernel) (sa_cons rfl (dE_var rfl (by decide +kernel)) (sa_cons rfl (dE_ty (by decide +kernel)) sa_nil)))) (dE_cmp rfl (dE_blt (by decide +kernel) (sa_cons rfl (dE_var rfl (by decide +kernel)) (sa_cons rfl (dE_ty (by decide +kernel)) sa_nil))) (dE_blt (by decide +kernel) (sa_cons rfl (dE_var rfl (by decide +kernel)) (sa_cons rfl (dE_ty (by decide +kernel)) sa_nil))))) (ds_cons (dS_ret dE_bl) ds_nil) ds_nil) (ds_cons (dS_iff (dE_cmp rfl (dE_blt (by decide +kernel) (sa_cons rfl (dE_var rfl (by decide +kernel)) sa_nil)) (dE_blt (by decide +kernel) (sa_cons rfl (dE_var rfl (by decide +kernel)) sa_nil))) (ds_cons (dS_ret dE_bl) ds_nil) ds_nil) (ds_cons (dS_for1 (by decide +kernel) (by decide +kernel) rfl (dE_blt (by decide +kernel) (sa_cons rfl (dE_var rfl (by decide +kernel)) sa_nil)) (ds_cons (dS_iff (dE_not (dE_call rfl (by decide +kernel) (sa_cons rfl (dE_ix (fun _ _ => rfl) (dE_var rfl (by decide +kernel)) (dE_var rfl (by decide +kernel))) (sa_cons rfl (dE_ix (fun _ _ => rfl) (dE_var rfl (by decide +kernel)) (dE_var rfl (by decide +kernel))) sa_nil)))) (ds_cons (dS_ret dE_bl) ds_nil) ds_nil) ds_nil)) (ds_cons (dS_ret dE_bl) ds_nil)))) ds_nil) (ds_cons (dS_iff (dE_cmp rfl (dE_var rfl (by decide +kernel)) dE_non) (ds_cons (dS_ret (dE_cmp rfl (dE_var rfl (by decide +kernel)) dE_non)) ds_nil) ds_nil) (ds_cons (dS_iff (dE_or (dE_blt (by decide +kernel) (sa_cons rfl (dE_var rfl (by decide +kernel)) (sa_cons rfl (dE_ty (by decide +kernel)) sa_nil))) (dE_blt (by decide +kernel) (sa_cons rfl (dE_var rfl (by decide +kernel)) (sa_cons rfl (dE_ty (by decide +kernel)) sa_nil)))) (ds_cons (dS_ret (by first | exact dE_and2 (dE_blt (by decide +kernel) (sa_cons rfl (dE_var rfl (by decide +kernel)) (sa_cons rfl (dE_ty (by decide +kernel)) sa_nil))) (dE_and (dE_blt (by decide +kernel) (sa_cons rfl (dE_var rfl (by decide +kernel)) (sa_cons rfl (dE_ty (by decide +kernel)) sa_nil))) (dE_cmp rfl (dE_var rfl (by decide +kernel)) (dE_var rfl (by decide +kernel)))) | exact dE_and (dE_blt (by decide +kernel) (sa_cons rfl (dE_var rfl (by decide +kernel)) (sa_cons rfl (dE_ty (by decide +kernel)) sa_nil))) (dE_and (dE_blt (by decide +kernel) (sa_cons rfl (dE_var rfl (by decide +kernel)) (sa_cons rfl (dE_ty (by decide +kernel)) sa_nil))) (dE_cmp rfl (dE_var rfl (by decide +kernel)) (dE_var rfl (by decide +kernel)))))) ds_nil) ds_nil) (ds_cons (dS_iff (dE_blt (by decide +kernel) (sa_cons rfl (dE_var rfl (by decide +kernel)) (sa_cons rfl (dE_ty (by decide +kernel)) sa_nil))) (ds_cons (dS_ret (dE_and (dE_blt (by decide +kernel) (sa_cons rfl (dE_var rfl (by decide +kernel)) (sa_cons rfl (dE_ty (by decide +kernel)) sa_nil))) (dE_cmp rfl (dE_var rfl (by decide +kernel)) (dE_var rfl (by decide +kernel))))) ds_nil) ds_nil) (ds_cons (dS_ret (dE_and (dE_blt (by decide +kernel) (sa_cons rfl (dE_var rfl (by decide +kernel)) (sa_cons rfl (dE_ty (by decide +kernel)) sa_nil))) (dE_cmp rfl (dE_var rfl (by decide +kernel)) (dE_var rfl (by decide +kernel))))) ds_nil)))))
theorem sc12 : FnScope ["_law_deed", "_law_words"] ["_law_deed"] (defScope (top 20)) := ⟨rfl, rfl, rfl, by decide +kernel, rfl, by decide +kernel, by decide +kernel⟩
set_option maxHeartbeats 0 in
theorem ck12 : SSs ["_law_deed", "_law_words"] (defScope (top 20)) G b12 (defBody (top 20)) := (ds_cons (dS_iff (dE_cmp rfl (dE_ix (fun _ _ => rfl) (dE_var rfl (by decide +kernel)) dE_int) dE_str) (ds_cons (dS_asc rfl (by decide +kernel) (by decide +kernel) (by decide +kernel) (blk_of (by decide +kernel)) rfl (by decide +kernel) (it_sq (dE_slT (dE_var rfl (by decide +kernel)) dE_int)) sb_nil (dE_sof (by decide +kernel) rfl (dE_var rfl (by decide +kernel)))) (ds_cons (dS_ret (dE_bin (dE_var rfl (by decide +kernel)) (dE_comp (blk_of (by decide +kernel)) rfl (by decide +kernel) (it_sq (dE_ix (fun _ _ => rfl) (dE_var rfl (by decide +kernel)) dE_int)) sb_nil (dE_bin (dE_bin (dE_bin (dE_bin (dE_sof (by decide +kernel) rfl (dE_ix (fun _ _ => rfl) (dE_var rfl (by decide +kernel)) dE_int)) dE_str) (dE_sof (by decide +kernel) rfl (dE_ix (fun _ _ => rfl) (dE_var rfl (by decide +kernel)) dE_int))) dE_str) (dE_sof (by decide +kernel) rfl (dE_ix (fun _ _ => rfl) (dE_var rfl (by decide +kernel)) dE_int)))))) ds_nil)) ds_nil) (ds_cons (dS_iff (dE_cmp rfl (dE_ix (fun _ _ => rfl) (dE_var rfl (by decide +kernel)) dE_int) dE_str) (ds_cons (dS_ret (dE_comp (blk_of (by decide +kernel)) rfl (by decide +kernel) (it_sq (dE_bin (dE_slT (dE_var rfl (by decide +kernel)) dE_int) (dE_ix (fun _ _ => rfl) (dE_var rfl (by decide +kernel)) dE_int))) sb_nil (dE_sof (by decide +kernel) rfl (dE_var rfl (by decide +kernel))))) ds_nil) ds_nil) (ds_cons (dS_ret (dE_comp (blk_of (by decide +kernel)) rfl (by decide +kernel) (it_sq (dE_var rfl (by decide +kernel))) sb_nil (dE_sof (by decide +kernel) rfl (dE_var rfl (by decide +kernel))))) ds_nil)))
theorem sc13 : FnScope ["_law_one", "_law_two"] ["_law_one", "_law_two"] (defScope (top 21)) := ⟨rfl, rfl, rfl, by decide +kernel, rfl, by decide +kernel, by decide +kernel⟩
set_option maxHeartbeats 0 in
theorem ck13 : SSs ["_law_one", "_law_two"] (defScope (top 21)) G b13 (defBody (top 21)) := (ds_cons (dS_iff (dE_cmp rfl (dE_bin (dE_var rfl (by decide +kernel)) dE_int) dE_int) (ds_cons (dS_ret (dE_bin (dE_bin (dE_bin (dE_var rfl (by decide +kernel)) dE_int) dE_int) dE_int)) ds_nil) ds_nil) (ds_cons (dS_iff (dE_cmp rfl (dE_bin (dE_var rfl (by decide +kernel)) dE_int) dE_int) (ds_cons (dS_ret (dE_bin (dE_bin (dE_var rfl (by decide +kernel)) dE_int) (dE_itx (by decide +kernel) rfl (dE_bin dE_str (dE_rep dE_str (dE_bin (dE_bin (dE_var rfl (by decide +kernel)) dE_int) dE_int)))))) ds_nil) ds_nil) (ds_cons (dS_ret (dE_bin (dE_bin (dE_bin (dE_var rfl (by decide +kernel)) dE_int) (dE_var rfl (by decide +kernel))) dE_int)) ds_nil)))
theorem sc14 : FnScope ["_law_d", "_law_letters", "_law_one", "_law_other", "_law_numbers", "_law_stars", "_law_k"] ["_law_d"] (defScope (top 22)) := ⟨rfl, rfl, rfl, by decide +kernel, rfl, by decide +kernel, by decide +kernel⟩
set_option maxHeartbeats 0 in
theorem ck14 : SSs ["_law_d", "_law_letters", "_law_one", "_law_other", "_law_numbers", "_law_stars", "_law_k"] (defScope (top 22)) G b14 (defBody (top 22)) := (ds_cons (dS_asgN rfl (by decide +kernel) rfl dE_str) (ds_cons (dS_asgN rfl (by decide +kernel) rfl (dE_join rfl rfl (dE_comp (blk_of (by decide +kernel)) rfl (by decide +kernel) (it_r1 (by decide +kernel) rfl (dE_bin dE_int (dE_bin (dE_ix (fun _ _ => rfl) (dE_var rfl (by decide +kernel)) dE_int) dE_int))) sb_nil (dE_ix (fun _ _ => rfl) (dE_var rfl (by decide +kernel)) (dE_bin (dE_bin (dE_ix (fun _ _ => rfl) (dE_var rfl (by decide +kernel)) dE_int) (dE_bin (dE_var rfl (by decide +kernel)) (dE_ix (fun _ _ => rfl) (dE_var rfl (by decide +kernel)) dE_int))) dE_int))))) (ds_cons (dS_asgN rfl (by decide +kernel) rfl (dE_join rfl rfl (dE_comp (blk_of (by decide +kernel)) rfl (by decide +kernel) (it_r1 (by decide +kernel) rfl (dE_bin dE_int (dE_bin (dE_ix (fun _ _ => rfl) (dE_var rfl (by decide +kernel)) dE_int) dE_int))) sb_nil (dE_ix (fun _ _ => rfl) (dE_var rfl (by decide +kernel)) (dE_bin (dE_bin (dE_ix (fun _ _ => rfl) (dE_var rfl (by decide +kernel)) dE_int) (dE_bin (dE_var rfl (by decide +kernel)) (dE_ix (fun _ _ => rfl) (dE_var rfl (by decide +kernel)) dE_int))) dE_int))))) (ds_cons (dS_asc rfl (by decide +kernel) (by decide +kernel) (by decide +kernel) (blk_of (by decide +kernel)) rfl (by decide +kernel) (it_r2 (by decide +kernel) rfl rfl dE_int dE_int) sb_nil (dE_call rfl (by decide +kernel) (sa_cons rfl (dE_ix (fun _ _ => rfl) (dE_var rfl (by decide +kernel)) (dE_var rfl (by decide +kernel))) (sa_cons rfl (dE_ix (fun _ _ => rfl) (dE_var rfl (by decide +kernel)) (dE_bin (dE_var rfl (by decide +kernel)) dE_int)) sa_nil)))) (ds_cons (dS_iff (dE_cmp rfl (dE_bin (dE_ix (fun _ _ => rfl) (dE_var rfl (by decide +kernel)) dE_int) dE_int) dE_int) (ds_cons (dS_ret (dE_tup (sa_cons rfl dE_str (sa_cons rfl (dE_var rfl (by decide +kernel)) sa_nil)))) ds_nil) ds_nil) (ds_cons (dS_iff (dE_cmp rfl (dE_bin (dE_ix (fun _ _ => rfl) (dE_var rfl (by decide +kernel)) dE_int) dE_int) dE_int) (ds_cons (dS_ret (dE_tup (sa_cons rfl dE_str (sa_cons rfl (dE_ix (fun _ _ => rfl) (dE_var rfl (by decide +kernel)) dE_int) sa_nil)))) ds_nil) ds_nil) (ds_cons (dS_iff (dE_cmp rfl (dE_bin (dE_ix (fun _ _ => rfl) (dE_var rfl (by decide +kernel)) dE_int) dE_int) dE_int) (ds_cons (dS_ret (dE_tup (sa_cons rfl dE_str (sa_cons rfl (dE_var rfl (by decide +kernel)) (sa_cons rfl (dE_var rfl (by decide +kernel)) (sa_cons rfl (dE_tup (sa_cons rfl (dE_ix (fun _ _ => rfl) (dE_var rfl (by decide +kernel)) dE_int) (sa_cons rfl (dE_ix (fun _ _ => rfl) (dE_var rfl (by decide +kernel)) dE_int) (sa_cons rfl (dE_ix (fun _ _ => rfl) (dE_var rfl (by decide +kernel)) dE_int) sa_nil)))) sa_nil)))))) ds_nil) ds_nil) (ds_cons (dS_asgN rfl (by decide +kernel) rfl (dE_lst sa_nil)) (ds_cons (dS_for1 (by decide +kernel) (by decide +kernel) rfl (dE_bin (dE_bin (dE_ix (fun _ _ => rfl) (dE_var rfl (by decide +kernel)) dE_int) dE_int) dE_int) (ds_cons (dS_ex rfl (dE_app rfl rfl (dE_var rfl (by decide +kernel)) (dE_tup (sa_cons rfl (dE_ix (fun _ _ => rfl) (dE_var rfl (by decide +kernel)) (dE_bin (dE_bin dE_int (dE_var rfl (by decide +kernel))) dE_int)) (sa_cons rfl (dE_ix (fun _ _ => rfl) (dE_var rfl (by decide +kernel)) (dE_bin (dE_bin (dE_bin dE_int (dE_var rfl (by decide +kernel))) dE_int) dE_int)) (sa_cons rfl (dE_ix (fun _ _ => rfl) (dE_var rfl (by decide +kernel)) (dE_bin (dE_bin (dE_bin dE_int (dE_var rfl (by decide +kernel))) dE_int) dE_int)) sa_nil)))))) ds_nil)) (ds_cons (dS_ret (dE_tup (sa_cons rfl dE_str (sa_cons rfl (dE_var rfl (by decide +kernel)) (sa_cons rfl (dE_ix (fun _ _ => rfl) (dE_var rfl (by decide +kernel)) dE_int) (sa_cons rfl (dE_ix (fun _ _ => rfl) (dE_var rfl (by decide +kernel)) dE_int) (sa_cons rfl (dE_ix (fun _ _ => rfl) (dE_var rfl (by decide +kernel)) dE_int) (sa_cons rfl (dE_blt (by decide +kernel) (sa_cons rfl (dE_var rfl (by decide +kernel)) sa_nil)) sa_nil)))))))) ds_nil))))))))))
theorem sc15 : FnScope ["_law_script", "_law_deed", "_law_due"] ["_law_script"] (defScope (top 23)) := ⟨rfl, rfl, rfl, by decide +kernel, rfl, by decide +kernel, by decide +kernel⟩
set_option maxHeartbeats 0 in
theorem ck15 : SSs ["_law_script", "_law_deed", "_law_due"] (defScope (top 23)) G b15 (defBody (top 23)) := (ds_cons (dS_asgN rfl (by decide +kernel) rfl (dE_call rfl (by decide +kernel) (sa_cons rfl (dE_call rfl (by decide +kernel) (sa_cons rfl (dE_var rfl (by decide +kernel)) (sa_cons rfl dE_int (sa_cons rfl dE_int sa_nil)))) sa_nil))) (ds_cons (dS_asgN rfl (by decide +kernel) rfl (dE_join rfl rfl (dE_call rfl (by decide +kernel) (sa_cons rfl (dE_var rfl (by decide +kernel)) sa_nil)))) (ds_cons (dS_ret (dE_and (dE_call rfl (by decide +kernel) (sa_cons rfl (dE_call rfl (by decide +kernel) (sa_cons rfl (dE_var rfl (by decide +kernel)) sa_nil)) (sa_cons rfl (dE_var rfl (by decide +kernel)) sa_nil))) (dE_call rfl (by decide +kernel) (sa_cons rfl (dE_call rfl (by decide +kernel) (sa_cons rfl (dE_var rfl (by decide +kernel)) sa_nil)) (sa_cons rfl (dE_var rfl (by decide +kernel)) sa_nil))))) ds_nil)))
set_option maxHeartbeats 0 in
theorem all_mk {K : PySem.W.Frag} {h : Heap} {mg : Str -> Option Value} {fa : Addr} (X : K.In h) (Gn : h.Ns mainGlobals mg) (hfa : mg "law" = some (.ref fa))
    {f0 : Addr} {oc0 kV0 dc0 pm0 cd0 ct0 : Value} {od0 an0 : Option Addr} {sl0 : Array (Option Value)} {f1 : Addr} {oc1 kV1 dc1 pm1 cd1 ct1 : Value} {od1 an1 : Option Addr} {sl1 : Array (Option Value)} {f2 : Addr} {oc2 kV2 dc2 pm2 cd2 ct2 : Value} {od2 an2 : Option Addr} {sl2 : Array (Option Value)} {f3 : Addr} {oc3 kV3 dc3 pm3 cd3 ct3 : Value} {od3 an3 : Option Addr} {sl3 : Array (Option Value)} {f4 : Addr} {oc4 kV4 dc4 pm4 cd4 ct4 : Value} {od4 an4 : Option Addr} {sl4 : Array (Option Value)} {f5 : Addr} {oc5 kV5 dc5 pm5 cd5 ct5 : Value} {od5 an5 : Option Addr} {sl5 : Array (Option Value)} {f6 : Addr} {oc6 kV6 dc6 pm6 cd6 ct6 : Value} {od6 an6 : Option Addr} {sl6 : Array (Option Value)} {f7 : Addr} {oc7 kV7 dc7 pm7 cd7 ct7 : Value} {od7 an7 : Option Addr} {sl7 : Array (Option Value)} {f8 : Addr} {oc8 kV8 dc8 pm8 cd8 ct8 : Value} {od8 an8 : Option Addr} {sl8 : Array (Option Value)} {f9 : Addr} {oc9 kV9 dc9 pm9 cd9 ct9 : Value} {od9 an9 : Option Addr} {sl9 : Array (Option Value)} {f10 : Addr} {oc10 kV10 dc10 pm10 cd10 ct10 : Value} {od10 an10 : Option Addr} {sl10 : Array (Option Value)} {f11 : Addr} {oc11 kV11 dc11 pm11 cd11 ct11 : Value} {od11 an11 : Option Addr} {sl11 : Array (Option Value)} {f12 : Addr} {oc12 kV12 dc12 pm12 cd12 ct12 : Value} {od12 an12 : Option Addr} {sl12 : Array (Option Value)} {f13 : Addr} {oc13 kV13 dc13 pm13 cd13 ct13 : Value} {od13 an13 : Option Addr} {sl13 : Array (Option Value)} {f14 : Addr} {oc14 kV14 dc14 pm14 cd14 ct14 : Value} {od14 an14 : Option Addr} {sl14 : Array (Option Value)} {f15 : Addr} {oc15 kV15 dc15 pm15 cd15 ct15 : Value} {od15 an15 : Option Addr} {sl15 : Array (Option Value)} {u0 : Tok} {u1 : Tok} {u2 : Tok}
    (fa0 : PySem.W.nsIn K mainGlobals "consists_of" = some (some (.ref f0)))
    (fl0 : K.lookup f0 = some ⟨oc0, od0, .func (PySem.W.fnOf "consists_of" "consists_of" (defArgs (top 7)) (defBody (top 7)) (defScope (top 7)) .none kV0 dc0 pm0 an0 cd0 ct0), sl0⟩)
    (fc0 : PySem.W.codeIn K cd0 "consists_of" = true)
    (fk0 : PySem.W.keepIn K (.ref f0) = true)
    (fa1 : PySem.W.nsIn K mainGlobals "is_number" = some (some (.ref f1)))
    (fl1 : K.lookup f1 = some ⟨oc1, od1, .func (PySem.W.fnOf "is_number" "is_number" (defArgs (top 8)) (defBody (top 8)) (defScope (top 8)) .none kV1 dc1 pm1 an1 cd1 ct1), sl1⟩)
    (fc1 : PySem.W.codeIn K cd1 "is_number" = true)
    (fk1 : PySem.W.keepIn K (.ref f1) = true)
    (fa2 : PySem.W.nsIn K mainGlobals "read_word" = some (some (.ref f2)))
    (fl2 : K.lookup f2 = some ⟨oc2, od2, .func (PySem.W.fnOf "read_word" "read_word" (defArgs (top 9)) (defBody (top 9)) (defScope (top 9)) .none kV2 dc2 pm2 an2 cd2 ct2), sl2⟩)
    (fc2 : PySem.W.codeIn K cd2 "read_word" = true)
    (fk2 : PySem.W.keepIn K (.ref f2) = true)
    (fa3 : PySem.W.nsIn K mainGlobals "read_words" = some (some (.ref f3)))
    (fl3 : K.lookup f3 = some ⟨oc3, od3, .func (PySem.W.fnOf "read_words" "read_words" (defArgs (top 10)) (defBody (top 10)) (defScope (top 10)) .none kV3 dc3 pm3 an3 cd3 ct3), sl3⟩)
    (fc3 : PySem.W.codeIn K cd3 "read_words" = true)
    (fk3 : PySem.W.keepIn K (.ref f3) = true)
    (fa4 : PySem.W.nsIn K mainGlobals "read_star" = some (some (.ref f4)))
    (fl4 : K.lookup f4 = some ⟨oc4, od4, .func (PySem.W.fnOf "read_star" "read_star" (defArgs (top 11)) (defBody (top 11)) (defScope (top 11)) .none kV4 dc4 pm4 an4 cd4 ct4), sl4⟩)
    (fc4 : PySem.W.codeIn K cd4 "read_star" = true)
    (fk4 : PySem.W.keepIn K (.ref f4) = true)
    (fa5 : PySem.W.nsIn K mainGlobals "read_plate" = some (some (.ref f5)))
    (fl5 : K.lookup f5 = some ⟨oc5, od5, .func (PySem.W.fnOf "read_plate" "read_plate" (defArgs (top 12)) (defBody (top 12)) (defScope (top 12)) .none kV5 dc5 pm5 an5 cd5 ct5), sl5⟩)
    (fc5 : PySem.W.codeIn K cd5 "read_plate" = true)
    (fk5 : PySem.W.keepIn K (.ref f5) = true)
    (fa6 : PySem.W.nsIn K mainGlobals "numbers_text" = some (some (.ref f6)))
    (fl6 : K.lookup f6 = some ⟨oc6, od6, .func (PySem.W.fnOf "numbers_text" "numbers_text" (defArgs (top 13)) (defBody (top 13)) (defScope (top 13)) .none kV6 dc6 pm6 an6 cd6 ct6), sl6⟩)
    (fc6 : PySem.W.codeIn K cd6 "numbers_text" = true)
    (fk6 : PySem.W.keepIn K (.ref f6) = true)
    (fa7 : PySem.W.nsIn K mainGlobals "plate_text" = some (some (.ref f7)))
    (fl7 : K.lookup f7 = some ⟨oc7, od7, .func (PySem.W.fnOf "plate_text" "plate_text" (defArgs (top 14)) (defBody (top 14)) (defScope (top 14)) .none kV7 dc7 pm7 an7 cd7 ct7), sl7⟩)
    (fc7 : PySem.W.codeIn K cd7 "plate_text" = true)
    (fk7 : PySem.W.keepIn K (.ref f7) = true)
    (fa8 : PySem.W.nsIn K mainGlobals "deed_text" = some (some (.ref f8)))
    (fl8 : K.lookup f8 = some ⟨oc8, od8, .func (PySem.W.fnOf "deed_text" "deed_text" (defArgs (top 15)) (defBody (top 15)) (defScope (top 15)) .none kV8 dc8 pm8 an8 cd8 ct8), sl8⟩)
    (fc8 : PySem.W.codeIn K cd8 "deed_text" = true)
    (fk8 : PySem.W.keepIn K (.ref f8) = true)
    (fa9 : PySem.W.nsIn K mainGlobals "read_deed" = some (some (.ref f9)))
    (fl9 : K.lookup f9 = some ⟨oc9, od9, .func (PySem.W.fnOf "read_deed" "read_deed" (defArgs (top 16)) (defBody (top 16)) (defScope (top 16)) .none kV9 dc9 pm9 an9 cd9 ct9), sl9⟩)
    (fc9 : PySem.W.codeIn K cd9 "read_deed" = true)
    (fk9 : PySem.W.keepIn K (.ref f9) = true)
    (fa10 : PySem.W.nsIn K mainGlobals "_law_draws" = some (some (.ref f10)))
    (fl10 : K.lookup f10 = some ⟨oc10, od10, .func (PySem.W.fnOf "_law_draws" "_law_draws" (defArgs (top 18)) (defBody (top 18)) (defScope (top 18)) .none kV10 dc10 pm10 an10 cd10 ct10), sl10⟩)
    (fc10 : PySem.W.codeIn K cd10 "_law_draws" = true)
    (fk10 : PySem.W.keepIn K (.ref f10) = true)
    (fa11 : PySem.W.nsIn K mainGlobals "_law_same" = some (some (.ref f11)))
    (fl11 : K.lookup f11 = some ⟨oc11, od11, .func (PySem.W.fnOf "_law_same" "_law_same" (defArgs (top 19)) (defBody (top 19)) (defScope (top 19)) .none kV11 dc11 pm11 an11 cd11 ct11), sl11⟩)
    (fc11 : PySem.W.codeIn K cd11 "_law_same" = true)
    (fk11 : PySem.W.keepIn K (.ref f11) = true)
    (fa12 : PySem.W.nsIn K mainGlobals "_law_deed_words" = some (some (.ref f12)))
    (fl12 : K.lookup f12 = some ⟨oc12, od12, .func (PySem.W.fnOf "_law_deed_words" "_law_deed_words" (defArgs (top 20)) (defBody (top 20)) (defScope (top 20)) .none kV12 dc12 pm12 an12 cd12 ct12), sl12⟩)
    (fc12 : PySem.W.codeIn K cd12 "_law_deed_words" = true)
    (fk12 : PySem.W.keepIn K (.ref f12) = true)
    (fa13 : PySem.W.nsIn K mainGlobals "_law_any_number" = some (some (.ref f13)))
    (fl13 : K.lookup f13 = some ⟨oc13, od13, .func (PySem.W.fnOf "_law_any_number" "_law_any_number" (defArgs (top 21)) (defBody (top 21)) (defScope (top 21)) .none kV13 dc13 pm13 an13 cd13 ct13), sl13⟩)
    (fc13 : PySem.W.codeIn K cd13 "_law_any_number" = true)
    (fk13 : PySem.W.keepIn K (.ref f13) = true)
    (fa14 : PySem.W.nsIn K mainGlobals "_law_any_deed" = some (some (.ref f14)))
    (fl14 : K.lookup f14 = some ⟨oc14, od14, .func (PySem.W.fnOf "_law_any_deed" "_law_any_deed" (defArgs (top 22)) (defBody (top 22)) (defScope (top 22)) .none kV14 dc14 pm14 an14 cd14 ct14), sl14⟩)
    (fc14 : PySem.W.codeIn K cd14 "_law_any_deed" = true)
    (fk14 : PySem.W.keepIn K (.ref f14) = true)
    (fa15 : PySem.W.nsIn K mainGlobals "law" = some (some (.ref f15)))
    (fl15 : K.lookup f15 = some ⟨oc15, od15, .func (PySem.W.fnOf "law" "law" (defArgs (top 23)) (defBody (top 23)) (defScope (top 23)) .none kV15 dc15 pm15 an15 cd15 ct15), sl15⟩)
    (fc15 : PySem.W.codeIn K cd15 "law" = true)
    (fk15 : PySem.W.keepIn K (.ref f15) = true)
    (ga0 : PySem.W.nsIn K mainGlobals "LETTERS" = some (some (.str "abcdefghijklmnopqrstuvwxyz" u0)))
    (ga1 : PySem.W.nsIn K mainGlobals "FIGURES" = some (some (.str "0123456789" u1)))
    (ga2 : PySem.W.nsIn K mainGlobals "MOST_FIGURES" = some (some (.int (100) u2)))
    (z_len : PySem.W.nsIn K mainGlobals "len" = some none)
    (z_isinstance : PySem.W.nsIn K mainGlobals "isinstance" = some none)
    (z_int : PySem.W.nsIn K mainGlobals "int" = some none)
    (z_list : PySem.W.nsIn K mainGlobals "list" = some none)
    (z_bool : PySem.W.nsIn K mainGlobals "bool" = some none)
    (z_str : PySem.W.nsIn K mainGlobals "str" = some none)
    (z_tuple : PySem.W.nsIn K mainGlobals "tuple" = some none)
    (z_range : PySem.W.nsIn K mainGlobals "range" = some none)
    (z_max : PySem.W.nsIn K mainGlobals "max" = some none)
    (z_min : PySem.W.nsIn K mainGlobals "min" = some none)
    (z_sorted : PySem.W.nsIn K mainGlobals "sorted" = some none)
    (z_all : PySem.W.nsIn K mainGlobals "all" = some none)
    (z_zip : PySem.W.nsIn K mainGlobals "zip" = some none)
    (z_ValueError : PySem.W.nsIn K mainGlobals "ValueError" = some none)
    : ∃ ca : Nat -> Addr, PrOk K mg G ca T /\ ∃ fd : FuncData, (∀ (s : Shared) (u : Value), BindsTo s fd ⟨[u], []⟩ [("_law_script", u)]) /\ ∃ c st N qual, T 15 = some c /\ Fun K "law" qual st fa fd /\ FnScope N ["_law_script"] (defScope st) /\ 1 = c.np /\ N.length = c.ns /\ SSs N (defScope st) G c.body (defBody st) := by
  have e := hfa.symm.trans (PySem.W.mg_of X Gn fa15)
  cases e
  have F0 := fun_mk (st := top 7) fl0 fc0 fk0
  have B0 := F0.binds (ps := ["word", "signs"]) fun _ _ _ _ _ _ us hl => by obtain ⟨u0, u1, rfl⟩ := len2 hl; rfl
  have F1 := fun_mk (st := top 8) fl1 fc1 fk1
  have B1 := F1.binds (ps := ["word"]) fun _ _ _ _ _ _ us hl => by obtain ⟨u0, rfl⟩ := len1 hl; rfl
  have F2 := fun_mk (st := top 9) fl2 fc2 fk2
  have B2 := F2.binds (ps := ["word", "kind"]) fun _ _ _ _ _ _ us hl => by obtain ⟨u0, u1, rfl⟩ := len2 hl; rfl
  have F3 := fun_mk (st := top 10) fl3 fc3 fk3
  have B3 := F3.binds (ps := ["words", "kinds"]) fun _ _ _ _ _ _ us hl => by obtain ⟨u0, u1, rfl⟩ := len2 hl; rfl
  have F4 := fun_mk (st := top 11) fl4 fc4 fk4
  have B4 := F4.binds (ps := ["word"]) fun _ _ _ _ _ _ us hl => by obtain ⟨u0, rfl⟩ := len1 hl; rfl
  have F5 := fun_mk (st := top 12) fl5 fc5 fk5
  have B5 := F5.binds (ps := ["words"]) fun _ _ _ _ _ _ us hl => by obtain ⟨u0, rfl⟩ := len1 hl; rfl
  have F6 := fun_mk (st := top 13) fl6 fc6 fk6
  have B6 := F6.binds (ps := ["numbers"]) fun _ _ _ _ _ _ us hl => by obtain ⟨u0, rfl⟩ := len1 hl; rfl
  have F7 := fun_mk (st := top 14) fl7 fc7 fk7
  have B7 := F7.binds (ps := ["name", "width", "height", "limit", "stars"]) fun _ _ _ _ _ _ us hl => by obtain ⟨u0, u1, u2, u3, u4, rfl⟩ := len5 hl; rfl
  have F8 := fun_mk (st := top 15) fl8 fc8 fk8
  have B8 := F8.binds (ps := ["deed"]) fun _ _ _ _ _ _ us hl => by obtain ⟨u0, rfl⟩ := len1 hl; rfl
  have F9 := fun_mk (st := top 16) fl9 fc9 fk9
  have B9 := F9.binds (ps := ["text"]) fun _ _ _ _ _ _ us hl => by obtain ⟨u0, rfl⟩ := len1 hl; rfl
  have F10 := fun_mk (st := top 18) fl10 fc10 fk10
  have B10 := F10.binds (ps := ["_law_script", "_law_at", "_law_many"]) fun _ _ _ _ _ _ us hl => by obtain ⟨u0, u1, u2, rfl⟩ := len3 hl; rfl
  have F11 := fun_mk (st := top 19) fl11 fc11 fk11
  have B11 := F11.binds (ps := ["_law_found", "_law_due"]) fun _ _ _ _ _ _ us hl => by obtain ⟨u0, u1, rfl⟩ := len2 hl; rfl
  have F12 := fun_mk (st := top 20) fl12 fc12 fk12
  have B12 := F12.binds (ps := ["_law_deed"]) fun _ _ _ _ _ _ us hl => by obtain ⟨u0, rfl⟩ := len1 hl; rfl
  have F13 := fun_mk (st := top 21) fl13 fc13 fk13
  have B13 := F13.binds (ps := ["_law_one", "_law_two"]) fun _ _ _ _ _ _ us hl => by obtain ⟨u0, u1, rfl⟩ := len2 hl; rfl
  have F14 := fun_mk (st := top 22) fl14 fc14 fk14
  have B14 := F14.binds (ps := ["_law_d"]) fun _ _ _ _ _ _ us hl => by obtain ⟨u0, rfl⟩ := len1 hl; rfl
  have F15 := fun_mk (st := top 23) fl15 fc15 fk15
  have B15 := F15.binds (ps := ["_law_script"]) fun _ _ _ _ _ _ us hl => by obtain ⟨u0, rfl⟩ := len1 hl; rfl
  refine ⟨fun i => ([] : List Addr).getD i 0, ⟨fun f x hf => ?_, fun g x d hg => ?_, fun b => ?_, fun t => ?_, PySem.W.mg_none_of X Gn z_range, fun c x hx => ?_, fun q hq => ?_, fun q hq => ?_, PySem.W.mg_none_of X Gn z_ValueError, fun p hp => ?_, fun p hp => ?_, fun p hp => ?_⟩, ?_⟩
  · refine AllP.get0 (P := fun f x => ∃ c, T f = some c /\ FcOk K mg G x c) (l := G.fns) ?_ hf
    refine And.intro ⟨_, rfl, _, _, _, _, _, _, F0, sc0, rfl, rfl, B0, PySem.W.mg_of X Gn fa0, ck0⟩ ?_
    refine And.intro ⟨_, rfl, _, _, _, _, _, _, F1, sc1, rfl, rfl, B1, PySem.W.mg_of X Gn fa1, ck1⟩ ?_
    refine And.intro ⟨_, rfl, _, _, _, _, _, _, F2, sc2, rfl, rfl, B2, PySem.W.mg_of X Gn fa2, ck2⟩ ?_
    refine And.intro ⟨_, rfl, _, _, _, _, _, _, F3, sc3, rfl, rfl, B3, PySem.W.mg_of X Gn fa3, ck3⟩ ?_
    refine And.intro ⟨_, rfl, _, _, _, _, _, _, F4, sc4, rfl, rfl, B4, PySem.W.mg_of X Gn fa4, ck4⟩ ?_
    refine And.intro ⟨_, rfl, _, _, _, _, _, _, F5, sc5, rfl, rfl, B5, PySem.W.mg_of X Gn fa5, ck5⟩ ?_
    refine And.intro ⟨_, rfl, _, _, _, _, _, _, F6, sc6, rfl, rfl, B6, PySem.W.mg_of X Gn fa6, ck6⟩ ?_
    refine And.intro ⟨_, rfl, _, _, _, _, _, _, F7, sc7, rfl, rfl, B7, PySem.W.mg_of X Gn fa7, ck7⟩ ?_
    refine And.intro ⟨_, rfl, _, _, _, _, _, _, F8, sc8, rfl, rfl, B8, PySem.W.mg_of X Gn fa8, ck8⟩ ?_
    refine And.intro ⟨_, rfl, _, _, _, _, _, _, F9, sc9, rfl, rfl, B9, PySem.W.mg_of X Gn fa9, ck9⟩ ?_
    refine And.intro ⟨_, rfl, _, _, _, _, _, _, F10, sc10, rfl, rfl, B10, PySem.W.mg_of X Gn fa10, ck10⟩ ?_
    refine And.intro ⟨_, rfl, _, _, _, _, _, _, F11, sc11, rfl, rfl, B11, PySem.W.mg_of X Gn fa11, ck11⟩ ?_
    refine And.intro ⟨_, rfl, _, _, _, _, _, _, F12, sc12, rfl, rfl, B12, PySem.W.mg_of X Gn fa12, ck12⟩ ?_
    refine And.intro ⟨_, rfl, _, _, _, _, _, _, F13, sc13, rfl, rfl, B13, PySem.W.mg_of X Gn fa13, ck13⟩ ?_
    refine And.intro ⟨_, rfl, _, _, _, _, _, _, F14, sc14, rfl, rfl, B14, PySem.W.mg_of X Gn fa14, ck14⟩ ?_
    refine And.intro ⟨_, rfl, _, _, _, _, _, _, F15, sc15, rfl, rfl, B15, PySem.W.mg_of X Gn fa15, ck15⟩ ?_
    exact trivial
  · refine AllP.get0 (P := fun _ p => ∃ v u, mg p.1 = some u /\ RelV v u /\ ∀ m H, RD K m H p.2 v) (l := G.csts) ?_ hg
    refine And.intro ⟨V.str "abcdefghijklmnopqrstuvwxyz", _, PySem.W.mg_of X Gn ga0, ⟨_, rfl⟩, fun m H => RD.str _⟩ ?_
    refine And.intro ⟨V.str "0123456789", _, PySem.W.mg_of X Gn ga1, ⟨_, rfl⟩, fun m H => RD.str _⟩ ?_
    refine And.intro ⟨V.int (100), _, PySem.W.mg_of X Gn ga2, ⟨_, rfl⟩, fun m H => RD.int _⟩ ?_
    exact trivial
  · cases b
    · exact PySem.W.mg_none_of X Gn z_len
    · exact PySem.W.mg_none_of X Gn z_isinstance
    · exact PySem.W.mg_none_of X Gn z_int
    · exact PySem.W.mg_none_of X Gn z_list
    · exact PySem.W.mg_none_of X Gn z_sorted
    · exact PySem.W.mg_none_of X Gn z_all
    · exact PySem.W.mg_none_of X Gn z_tuple
    · exact PySem.W.mg_none_of X Gn z_zip
  · cases t
    · exact PySem.W.mg_none_of X Gn z_int
    · exact PySem.W.mg_none_of X Gn z_bool
    · exact PySem.W.mg_none_of X Gn z_str
    · exact PySem.W.mg_none_of X Gn z_tuple
    · exact PySem.W.mg_none_of X Gn z_list
  · refine AllP.get0 (P := fun c x => mg x = some (.ref (([] : List Addr).getD c 0)) /\ ExcF K (([] : List Addr).getD c 0)) (l := G.excs) ?_ hx
    exact trivial
  · simp only [G, List.mem_cons, List.not_mem_nil, or_false] at hq
  · simp only [G, List.mem_cons, List.not_mem_nil, or_false] at hq
  · refine AllP.mem (i := 0) (P := fun p => ∃ C, PySem.W.nsIn K mainGlobals p.1 = some (some (.ref C)) /\ Cls K C /\ NoAttr K C p.2) (l := G.atts) ?_ hp
    exact trivial
  · refine AllP.mem (i := 0) (P := fun p => ∃ C c, PySem.W.nsIn K mainGlobals p.1 = some (some (.ref C)) /\ Cls K C /\ T p.2.2 = some c /\ FmOk K G (fun fa => Meth K C p.2.1 fa) p.2.1 c) (l := G.meths) ?_ hp
    exact trivial
  · refine AllP.mem (i := 0) (P := fun p => ∃ C c, PySem.W.nsIn K mainGlobals p.1 = some (some (.ref C)) /\ mg p.1 = some (.ref C) /\ T p.2 = some c /\ FmOk K G (fun fa => Mk K C fa) "__init__" c) (l := G.news) ?_ hp
    exact trivial
  · exact ⟨_, fun s v => .of_eq rfl, _, _, _, _, rfl, F15, sc15, rfl, rfl, ck15⟩
end Pk23
namespace Pk23
open PySem L2 Ng
def W : Nat := 2000
theorem draws (n : Nat) (ns : List Int) (at' : Int) (M : Nat) (hM : M <= 1000) (h : Hh) (h0 : 0 <= at') (h1 : at' < 100000) (hs : lstAt h 0 = some (ns.map D.int)) : ∃ row : List Int, row.length = M /\ InR row /\ callD G T W (n + 1) 10 [.ref 0, .int at', .int M] h = .ok (.ref h.length) (h ++ [.lst (row.map D.int)]) := by
  obtain ⟨row, r1, r2, e⟩ := draws_ok G (callD G T W n) W h 0 ns at' M hM h0 h1 hs (by decide)
  refine ⟨row, r1, r2, ?_⟩
  rw [call_eq (c := ⟨3, 7, b10⟩) rfl rfl]
  have e' : xss G (callD G T W n) W b10 _ h = _ := e
  show (xss G (callD G T W n) W b10 [some (.ref 0), some (.int at'), some (.int M), none, none, none, none] h).bind endD = _
  rw [e']
  rfl
abbrev sameL : Ss := (.cons (.iff (.not (.call 11 (.cons (.ix (.var 0) (.var 2)) (.cons (.ix (.var 1) (.var 2)) .nil)))) (.cons (.ret (.bl false)) .nil) .nil) .nil)
theorem same_seq {cl : Cl} (x y : D) (l : List D) (h : Hh) (hl : l.length <= 1000) (ix : ∀ k : Nat, ∀ d, l[k]? = some d -> ixD x (.int k) h = .ok d h /\ ixD y (.int k) h = .ok d h) (hs : ∀ d ∈ l, cl 11 [d, d] h = .ok (.bl true) h)
    (ny : bltD .len [y] h = .ok (.int l.length) h) :
    ∃ r', xs G cl W (.forr (.nm 2) (.r1 (.blt .len (.cons (.var 1) .nil))) sameL) [some x, some y, none] h = .ok (.nx r') h := by
  obtain ⟨r', el, _⟩ := forS_id (t := .nm 2) (body := xss G cl W sameL) (fun r => ∃ d2, r = [some x, some y, d2]) h (rngD 0 l.length)
    (by
      rintro d hd r ⟨d2, rfl⟩
      obtain ⟨j, hj, rfl⟩ := rngD_mem hd
      have ej : l[j]? = some l[j] := List.getElem?_eq_getElem hj
      obtain ⟨i1, i2⟩ := ix j _ ej
      have es := hs l[j] (List.getElem_mem hj)
      exact ⟨_, _, rfl, by simp [sameL, i1, i2, es]; rfl, _, rfl⟩)
    [some x, some y, none] ⟨none, rfl⟩
  exact ⟨r', xsFor_r1 (j := l.length) (h1 := h) (by simp [ny]) (okR_nat (by omega)) el⟩
theorem same_flat (d : D) (hd : pd 0 d = true) (n : Nat) (h : Hh) : callD G T W (n + 1) 11 [d, d] h = .ok (.bl true) h := by
  rw [call_eq (c := ⟨2, 3, b11⟩) rfl rfl]
  generalize callD G T W n = cl
  have e1 : ∀ d : D, pd 0 d = true -> ev G cl (.blt .isinst (.cons (.var 1) (.cons (.tup (.cons (.ty .tuple) (.cons (.ty .list) .nil))) .nil))) [some d, some d, none] h = .ok (.bl false) h := fun d hd => by
    simp only [evBlt, evsCons, evsNil, evVar, evTup, evTy, List.getElem?_cons_succ, ge0, bindOk, List.length_cons, List.length_nil, Nat.reduceAdd, Nat.reduceLeDiff, if_true, bIs]
    cases d <;> first | (cases hd; done) | rfl
  have eT : ∀ (d : D) (i : Nat) (t : Ty) (b : Bool), ([some d, some d, none] : Ev)[i]? = some (some d) -> isinL d (.ty t.nm) h = .ok (.bl b) h -> ev G cl (.blt .isinst (.cons (.var i) (.cons (.ty t) .nil))) [some d, some d, none] h = .ok (.bl b) h := fun d i t b hi e => by
    simp only [evBlt, evsCons, evsNil, evV hi, evTy, bindOk, bIs, e]
  have eN : ∀ (d : D) (i : Nat), ([some d, some d, none] : Ev)[i]? = some (some d) -> ev G cl (.cmp .is (.var i) .non) [some d, some d, none] h = .ok (.bl (isNon d)) h := fun d i hi => evCmp2 (evV hi) (evNon ..) (cIsN ..)
  have eE : ∀ (d : D), cmpD .eq d d h = .ok (.bl true) h -> ev G cl (.cmp .eq (.var 0) (.var 1)) [some d, some d, none] h = .ok (.bl true) h := fun d e => evCmp2 (evV rfl) (evV rfl) e
  have eA : ∀ (a b : E) (r : Ev), ev G cl a r h = .ok (.bl true) h -> ev G cl b r h = .ok (.bl true) h -> ev G cl (.and a b) r h = .ok (.bl true) h := fun a b r ea eb => by
    rw [evAnd, ea, bindOk, tBl]; exact eb
  have eOf : ∀ (a b : E) (r : Ev), ev G cl a r h = .ok (.bl false) h -> ev G cl b r h = .ok (.bl false) h -> ev G cl (.or a b) r h = .ok (.bl false) h := fun a b r ea eb => by
    rw [evOr, ea, bindOk, tBl]; exact eb
  have rt : ∀ (a : E) (Z : Ss) (r : Ev), ev G cl a r h = .ok (.bl true) h -> xss G cl W (.cons (.ret a) Z) r h = .ok (.rt (.bl true)) h := fun a Z r e => xssRt (by rw [xsRet, e]; rfl)
  show (xss G cl W b11 [some d, some d, none] h).bind endD = _
  have s1 : ∀ (A Z : Ss) (c : E) (r : Ev), ev G cl c r h = .ok (.bl false) h -> xss G cl W (.cons (.iff c A .nil) Z) r h = xss G cl W Z r h := fun A Z c r e => xssNx (by rw [xsIffF e, xssNil])
  have s2 : ∀ (A Z : Ss) (c : E) (r : Ev), ev G cl c r h = .ok (.bl true) h -> xss G cl W A r h = .ok (.rt (.bl true)) h -> xss G cl W (.cons (.iff c A .nil) Z) r h = .ok (.rt (.bl true)) h := fun A Z c r e ea => xssRt (by rw [xsIffT e, ea])
  cases d with
  | non => rw [b11, s1 _ _ _ _ (e1 _ hd), s2 _ _ _ _ (eN _ 1 rfl) (rt _ _ _ (eN _ 0 rfl))]; rfl
  | bl b => rw [b11, s1 _ _ _ _ (e1 _ hd), s1 _ _ _ _ (eN _ 1 rfl), s2 _ _ _ _ (by rw [evOr, eT _ 1 .bool true rfl rfl, bindOk, tBl]) (rt _ _ _ (eA _ _ _ (eT _ 1 .bool true rfl rfl) (eA _ _ _ (eT _ 0 .bool true rfl rfl) (eE _ (by simp)))))]; rfl
  | int z => rw [b11, s1 _ _ _ _ (e1 _ hd), s1 _ _ _ _ (eN _ 1 rfl), s1 _ _ _ _ (eOf _ _ _ (eT _ 1 .bool false rfl rfl) (eT _ 0 .bool false rfl rfl)), s2 _ _ _ _ (eT _ 1 .int true rfl rfl) (rt _ _ _ (eA _ _ _ (eT _ 0 .int true rfl rfl) (eE _ (by simp))))]; rfl
  | str z => rw [b11, s1 _ _ _ _ (e1 _ hd), s1 _ _ _ _ (eN _ 1 rfl), s1 _ _ _ _ (eOf _ _ _ (eT _ 1 .bool false rfl rfl) (eT _ 0 .bool false rfl rfl)), s1 _ _ _ _ (eT _ 1 .int false rfl rfl), rt _ _ _ (eA _ _ _ (eT _ 0 .str true rfl rfl) (eE _ (by simp)))]; rfl
  | tup l => cases hd
  | ref n => cases hd
  | ty t => cases hd
theorem same_refl : ∀ (k : Nat) (d : D), pd k d = true -> ∀ (n : Nat) (h : Hh), callD G T W (k + n + 1) 11 [d, d] h = .ok (.bl true) h := by
  intro k
  induction k with
  | zero =>
    intro d hd n h
    rw [Nat.zero_add]
    exact same_flat d hd n h
  | succ k ih =>
    intro d hd n h
    by_cases hf : pd 0 d = true
    · exact same_flat d hf _ h
    cases d <;> first | exact absurd rfl hf | (cases hd; done) | skip
    rename_i l
    simp only [pd, Bool.and_eq_true, decide_eq_true_eq] at hd
    obtain ⟨h1, h2⟩ := hd
    obtain ⟨r', ef⟩ := same_seq (cl := callD G T W (k + 1 + n)) (.tup l) (.tup l) l h h1 (fun j d ej => by
        have ea : atI l (j : Int) = some d := atI_nat ej
        exact ⟨by rw [Ng.iTup, ea], by rw [Ng.iTup, ea]⟩) (fun d hd => by
          have := ih d (by rw [List.all_eq_true] at h2; exact h2 _ hd) n h
          rwa [show k + n + 1 = k + 1 + n by omega] at this) (by simp)
    show (xss G (callD G T W (k + 1 + n)) W b11 [some (.tup l), some (.tup l), none] h).bind endD = _
    rw [b11, xssRt (d := .bl true) (h' := h) (by
      rw [xsIff, show ev G (callD G T W (k + 1 + n)) (.blt .isinst (.cons (.var 1) (.cons (.tup (.cons (.ty .tuple) (.cons (.ty .list) .nil))) .nil))) [some (.tup l), some (.tup l), none] h = .ok (.bl true) h from by simp, nxOk, bindOk]
      show xss G _ W _ _ h = _
      rw [xssNx (r' := [some (.tup l), some (.tup l), none]) (h' := h) (by simp), xssNx (r' := [some (.tup l), some (.tup l), none]) (h' := h) (by simp), xssNx ef]
      simp)]
    rfl
theorem k0 (cl : Cl) (r : Ev) (h : Hh) : ev G cl (.gc 0) r h = .ok (.str abS) h := by rw [evGc, gc0]
theorem k1 (cl : Cl) (r : Ev) (h : Hh) : ev G cl (.gc 1) r h = .ok (.str fgS) h := by rw [evGc, gc1]
theorem k2 (cl : Cl) (r : Ev) (h : Hh) : ev G cl (.gc 2) r h = .ok (.int 100) h := by rw [evGc, gc2]
theorem con (n : Nat) : Con (callD G T W (n + 1)) 0 := fun h z s a b c => by
  rw [call_eq (c := ⟨2, 2, b0⟩) rfl rfl]
  exact con_ok a b c
theorem isu (n : Nat) : Isu (callD G T W (n + 2)) 1 := fun h i s => by
  rw [call_eq (c := ⟨1, 2, b1⟩) rfl rfl]
  exact isu_ok (k1 _) (k2 _) (con n) s
theorem rdw (n : Nat) : Rdw (callD G T W (n + 3)) 2 := fun h x o => by
  rw [call_eq (c := ⟨2, 2, b2⟩) rfl rfl]
  exact rdw_ok (k0 _) (con (n + 1)) (isu n) o
theorem rds (n : Nat) : Rds (callD G T W (n + 4)) 3 := fun h m l a b c => by
  rw [call_eq (c := ⟨2, 2, b3⟩) rfl rfl]
  exact rds_ok (rdw n) a b c
theorem rdt (n : Nat) : Rdt (callD G T W (n + 5)) 4 := fun h s o => by
  rw [call_eq (c := ⟨1, 1, b4⟩) rfl rfl]
  exact rdt_ok (rds n) o
theorem rdp (n : Nat) : Rdp (callD G T W (n + 6)) 5 := fun h m nm w t l S o e => by
  rw [call_eq (c := ⟨1, 5, b5⟩) rfl rfl]
  exact rdp_ok (rds (n + 1)) (rdt n) o e
theorem nut (n : Nat) : Nut (callD G T W (n + 1)) 6 := fun h l hl ho => ⟨fun m e => by
  rw [call_eq (c := ⟨1, 1, b6⟩) rfl rfl]
  exact (nut_ok hl ho).1 m e, by
  rw [call_eq (c := ⟨1, 1, b6⟩) rfl rfl]
  exact (nut_ok hl ho).2⟩
theorem plt (n : Nat) : Plt (callD G T W (n + 2)) 7 := fun h nm w t l S o => by
  rw [call_eq (c := ⟨5, 6, b7⟩) rfl rfl]
  exact plt_ok (nut n) o
theorem ddt (n : Nat) : Ddt (callD G T W (n + 3)) 8 := fun h d o => by
  rw [call_eq (c := ⟨1, 11, b8⟩) rfl rfl]
  exact ddt_ok (nut (n + 1)) (plt n) o
theorem rdd (n : Nat) : Rdd (callD G T W (n + 7)) 9 := fun h d o => by
  rw [call_eq (c := ⟨1, 8, b9⟩) rfl rfl]
  exact rdd_ok (rds (n + 2)) (rdp n) o
theorem dwo (n : Nat) : Dwo (callD G T W (n + 1)) 12 := fun h d o => by
  rw [call_eq (c := ⟨1, 2, b12⟩) rfl rfl]
  exact dwo_ok o
theorem anu (n : Nat) : Anu (callD G T W (n + 1)) 13 := fun h a b ha hb => by
  rw [call_eq (c := ⟨2, 2, b13⟩) rfl rfl]
  exact anu_ok ha hb
theorem ady (n : Nat) : Ady (callD G T W (n + 2)) 14 := fun h m row Q hl => by
  rw [call_eq (c := ⟨1, 7, b14⟩) rfl rfl]
  exact ady_ok (anu n) Q hl
theorem run (ns : List Int) (hn : ns.length <= 63) : ∃ h', callD G T W (49 + 1) 15 [.ref 0] [.ro (ns.map D.int)] = .ok (.bl true) h' := by
  rw [call_eq (c := ⟨1, 3, b15⟩) rfl rfl]
  exact law23_ok (draws 48 ns 0 27 (by decide) [.ro (ns.map D.int)] (by decide) (by decide) rfl) (ady 47) (dwo 48) (ddt 46) (rdd 42) (fun d h hd => same_refl 3 d hd 45 h)
end Pk23
end
open PySem PySem.W PyProof.Rows
namespace Sh
set_option maxRecDepth 100000 in
set_option maxHeartbeats 0 in
theorem hd : PySem.Challenge.rw_nightglass_k23_deeds_written_and_read.Holds := by
  refine holds_law sd fun said => ?_
  refine @Function.const _ True ?m ?hl
  rotate_left
  exact True.intro
  w_on; k_head; (case hw => w_witness2)
  k_fill
  refine ⟨fun w => by kernel_rfl, ?_⟩
  refine Ng.law_of (G := Pk23.G) (T := Pk23.T) (W := Pk23.W) (l := PySem.Challenge.rw_nightglass_k23_deeds_written_and_read) (n := 63) (k := 49) (lw := 15) (x := "_law_script") Pk23.run rfl (by decide) rfl ⟨rfl, by decide, by decide⟩ (fun w h Y => PySem.W.kIn_of Y) ?F
  case F =>
    intro w mg fa h KX Gn hmg
    refine' Pk23.all_mk KX Gn hmg ?fa0 ?fl0 ?fc0 ?fk0 ?fa1 ?fl1 ?fc1 ?fk1 ?fa2 ?fl2 ?fc2 ?fk2 ?fa3 ?fl3 ?fc3 ?fk3 ?fa4 ?fl4 ?fc4 ?fk4 ?fa5 ?fl5 ?fc5 ?fk5 ?fa6 ?fl6 ?fc6 ?fk6 ?fa7 ?fl7 ?fc7 ?fk7 ?fa8 ?fl8 ?fc8 ?fk8 ?fa9 ?fl9 ?fc9 ?fk9 ?fa10 ?fl10 ?fc10 ?fk10 ?fa11 ?fl11 ?fc11 ?fk11 ?fa12 ?fl12 ?fc12 ?fk12 ?fa13 ?fl13 ?fc13 ?fk13 ?fa14 ?fl14 ?fc14 ?fk14 ?fa15 ?fl15 ?fc15 ?fk15 ?ga0 ?ga1 ?ga2 ?z_len ?z_isinstance ?z_int ?z_list ?z_bool ?z_str ?z_tuple ?z_range ?z_max ?z_min ?z_sorted ?z_all ?z_zip ?z_ValueError
    (case fa0 => k_is)
    (case fl0 => k_is)
    (case fc0 => k_is)
    (case fk0 => k_is)
    (case fa1 => k_is)
    (case fl1 => k_is)
    (case fc1 => k_is)
    (case fk1 => k_is)
    (case fa2 => k_is)
    (case fl2 => k_is)
    (case fc2 => k_is)
    (case fk2 => k_is)
    (case fa3 => k_is)
    (case fl3 => k_is)
    (case fc3 => k_is)
    (case fk3 => k_is)
    (case fa4 => k_is)
    (case fl4 => k_is)
    (case fc4 => k_is)
    (case fk4 => k_is)
    (case fa5 => k_is)
    (case fl5 => k_is)
    (case fc5 => k_is)
    (case fk5 => k_is)
    (case fa6 => k_is)
    (case fl6 => k_is)
    (case fc6 => k_is)
    (case fk6 => k_is)
    (case fa7 => k_is)
    (case fl7 => k_is)
    (case fc7 => k_is)
    (case fk7 => k_is)
    (case fa8 => k_is)
    (case fl8 => k_is)
    (case fc8 => k_is)
    (case fk8 => k_is)
    (case fa9 => k_is)
    (case fl9 => k_is)
    (case fc9 => k_is)
    (case fk9 => k_is)
    (case fa10 => k_is)
    (case fl10 => k_is)
    (case fc10 => k_is)
    (case fk10 => k_is)
    (case fa11 => k_is)
    (case fl11 => k_is)
    (case fc11 => k_is)
    (case fk11 => k_is)
    (case fa12 => k_is)
    (case fl12 => k_is)
    (case fc12 => k_is)
    (case fk12 => k_is)
    (case fa13 => k_is)
    (case fl13 => k_is)
    (case fc13 => k_is)
    (case fk13 => k_is)
    (case fa14 => k_is)
    (case fl14 => k_is)
    (case fc14 => k_is)
    (case fk14 => k_is)
    (case fa15 => k_is)
    (case fl15 => k_is)
    (case fc15 => k_is)
    (case fk15 => k_is)
    (case ga0 => k_is)
    (case ga1 => k_is)
    (case ga2 => k_is)
    (case z_len => k_is)
    (case z_isinstance => k_is)
    (case z_int => k_is)
    (case z_list => k_is)
    (case z_bool => k_is)
    (case z_str => k_is)
    (case z_tuple => k_is)
    (case z_range => k_is)
    (case z_max => k_is)
    (case z_min => k_is)
    (case z_sorted => k_is)
    (case z_all => k_is)
    (case z_zip => k_is)
    (case z_ValueError => k_is)
end Sh
theorem PySem.Challenge.cw_nightglass_k23_deeds_written_and_read_holds : PySem.Challenge.rw_nightglass_k23_deeds_written_and_read.Holds :=
  Sh.hd
