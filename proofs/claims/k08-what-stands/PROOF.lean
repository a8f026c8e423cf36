import PyProof.Rows.All
import Wide.All
import OpenK.AllK
import Wide.FinOn
import Lean
import PyProof.EqAt
import PyProof.EqKinds
import PyProof.TupleCall
import PySem.SetOps
import PyProof.SetKind
import PyProof.DictStraight
import PyProof.FactsAll.set_1
import PyProof.FactsAll.set_2
import PyProof.DictIter
import PyProof.DictWalks
import PyProof.Walks
import PyProof.WalksS
import PyProof.Rows.SortWalk
import PyProof.CollectWalk
import PyProof.ListRange
import PyProof.Walk
import PyProof.WalkLemmas
import PyProof.Rows.SetFrom
import PyProof.SetRoads
import PyProof.NeKinds
import PyProof.CompFree
import PyProof.CompMap
import PyProof.CompUse
import KE.KRevIter
import PyProof.ListNew
import KE.KDictList
import PyProof.StationsW
import PyProof.NsDelKeeps
import PyProof.ExcClass2
import PyProof.RulesAs
import PyProof.Rows.Catch
import OpenK.KRaise
import KE.KTryMore
import KE.RegKTryMore
import KE.KSortTup
import KE.RegKIsAll
import PySem.Challenge.RW_holmway_k08_what_stands
set_option Elab.async false
set_option linter.all false
set_option maxRecDepth 100000
set_option maxHeartbeats 4000000
section
set_option Elab.async false
set_option linter.all false
set_option maxRecDepth 100000
namespace L2
open PySem PySem.Spec PyProof.Rows

/-- a key: an int or a str -/
abbrev Key := Sum Int Str
def keyIs : Key → Value → Bool
  | .inl k, v => Value.isInt k v
  | .inr x, v => Value.isStrOf x v
def keyH (w : World) : Key → Int
  | .inl k => hashInt k
  | .inr x => hashStr w x
theorem keyIs_shape : ∀ {k : Key} {v : Value}, keyIs k v = true → (∃ i t, k = Sum.inl i ∧ v = Value.int i t) ∨ (∃ x t, k = Sum.inr x ∧ v = Value.str x t)
  | .inl i, v, h => by
    obtain ⟨t, e⟩ := Value.isInt_shape (k := i) (v := v) h
    exact .inl ⟨i, t, rfl, e⟩
  | .inr x, v, h => by
    obtain ⟨t, e⟩ := Value.isStrOf_shape (x := x) (v := v) h
    exact .inr ⟨x, t, rfl, e⟩
theorem keyIs_int (i : Int) (t : Tok) : keyIs (.inl i) (.int i t) = true := by simp [keyIs, Value.isInt]
theorem keyIs_str (x : Str) (t : Tok) : keyIs (.inr x) (.str x t) = true := by simp [keyIs, Value.isStrOf]
theorem key_ll (a b : Int) : decide ((Sum.inl a : Key) = Sum.inl b) = (a == b) := by
  by_cases e : a = b
  · subst e; simp
  · have h : ¬ (Sum.inl a : Key) = Sum.inl b := fun q => e (Sum.inl.inj q)
    rw [decide_eq_false h]
    exact (beq_eq_false_iff_ne.mpr e).symm
theorem key_rr (a b : Str) : decide ((Sum.inr a : Key) = Sum.inr b) = decide (a = b) := by
  by_cases e : a = b
  · subst e; simp
  · have h : ¬ (Sum.inr a : Key) = Sum.inr b := fun q => e (Sum.inr.inj q)
    rw [decide_eq_false h, decide_eq_false e]
theorem key_lr (a : Int) (b : Str) : decide ((Sum.inl a : Key) = Sum.inr b) = false := decide_eq_false (fun q => nomatch q)
theorem key_rl (a : Str) (b : Int) : decide ((Sum.inr a : Key) = Sum.inl b) = false := decide_eq_false (fun q => nomatch q)

def mixKind (prog : Program) (w : World) : PySem.KeyKind prog w Key where
  is := keyIs
  hash := keyH w
  inj := fun v a b ha hb => by
    rcases keyIs_shape ha with ⟨i, t, rfl, rfl⟩ | ⟨x, t, rfl, rfl⟩
    · rcases keyIs_shape hb with ⟨j, u, rfl, e⟩ | ⟨y, u, rfl, e⟩
      · injection e with e1 _; rw [e1]
      · exact nomatch e
    · rcases keyIs_shape hb with ⟨j, u, rfl, e⟩ | ⟨y, u, rfl, e⟩
      · exact nomatch e
      · injection e with e1 _; rw [e1]
  byValue := fun k v h => by
    rcases keyIs_shape h with ⟨i, t, rfl, rfl⟩ | ⟨x, t, rfl, rfl⟩ <;> rfl
  pyHash := fun hv h => by
    rcases keyIs_shape hv with ⟨i, t, rfl, rfl⟩ | ⟨x, t, rfl, rfl⟩
    · exact wpAny_pyHash_int h
    · exact wpAny_pyHash_str h
  eqBool := fun hu hv h => by
    rcases keyIs_shape hu with ⟨i, t, rfl, rfl⟩ | ⟨x, t, rfl, rfl⟩
    · rcases keyIs_shape hv with ⟨j, u, rfl, rfl⟩ | ⟨y, u, rfl, rfl⟩
      · rw [key_ll] at h; exact wpAny_eqBool_int h
      · rw [key_lr] at h; exact SeqAt.EqAt.int_str i t y u _ _ _ _ h
    · rcases keyIs_shape hv with ⟨j, u, rfl, rfl⟩ | ⟨y, u, rfl, rfl⟩
      · rw [key_rl] at h; exact SeqAt.EqAt.str_int x t j u _ _ _ _ h
      · rw [key_rr] at h; exact wpAny_eqBool_str h
  «strs» := fun k x t v h => by
    rcases keyIs_shape h with ⟨i, u, rfl, e⟩ | ⟨y, u, rfl, e⟩
    · exact nomatch e
    · injection e with e1 _
      subst e1
      cases v <;> rfl

theorem mixKind_int (prog : Program) (w : World) (i : Int) (t : Tok) : (mixKind prog w).is (.inl i) (.int i t) = true := keyIs_int i t
theorem mixKind_str (prog : Program) (w : World) (x : Str) (t : Tok) : (mixKind prog w).is (.inr x) (.str x t) = true := keyIs_str x t
end L2

namespace L2
open PySem PySem.Spec PyProof.Rows

/-- a value, without the heap -/
inductive V where
  | non | bl (b : Bool) | int (i : Int) | str (x : Str) | byt (b : Array UInt8) | flt (b : UInt64) | ref (a : Addr) | ty (n : String)
  deriving DecidableEq

def RelV : V → Value → Prop
  | .non, u => u = Value.none
  | .bl b, u => u = Value.bool b
  | .int i, u => ∃ t, u = Value.int i t
  | .str x, u => ∃ t, u = Value.str x t
  | .byt b, u => ∃ t, u = Value.bytes b t
  | .flt b, u => ∃ t, u = Value.float b t
  | .ref a, u => u = Value.ref a
  | .ty n, u => u = Value.type n

abbrev Vals : List V → List Value → Prop := Paired RelV
theorem Vals.length {xs : List V} {us : List Value} (r : Vals xs us) : xs.length = us.length := Paired.length r
theorem Vals.get : ∀ {xs : List V} {us : List Value} {i : Nat} {x : V}, Vals xs us → xs[i]? = some x → ∃ u, us[i]? = some u ∧ RelV x u
  | _, _, _, _, .nil, e => by simp at e
  | _, _, 0, _, .cons r _, e => by simp at e; subst e; exact ⟨_, rfl, r⟩
  | _, _, i + 1, x, .cons _ t, e => by
    obtain ⟨u, h1, h2⟩ := Vals.get (i := i) (x := x) t (by simpa using e)
    exact ⟨u, by simpa using h1, h2⟩
theorem Vals.append : ∀ {xs ys : List V} {us ws : List Value}, Vals xs us → Vals ys ws → Vals (xs ++ ys) (us ++ ws)
  | _, _, _, _, .nil, s => s
  | _, _, _, _, .cons r t, s => .cons r (Vals.append t s)
theorem Vals.take : ∀ {xs : List V} {us : List Value} (n : Nat), Vals xs us → Vals (xs.take n) (us.take n)
  | _, _, 0, _ => .nil
  | _, _, _ + 1, .nil => .nil
  | _, _, n + 1, .cons r t => .cons r (Vals.take n t)
theorem Vals.drop : ∀ {xs : List V} {us : List Value} (n : Nat), Vals xs us → Vals (xs.drop n) (us.drop n)
  | _, _, 0, r => r
  | _, _, _ + 1, .nil => .nil
  | _, _, n + 1, .cons _ t => Vals.drop n t
def RelO : Option V → Option Value → Prop
  | some v, some u => RelV v u
  | none, none => True
  | _, _ => False
def KV {κ : Type} : List (κ × V) → List (κ × Value) → Prop := Paired fun (p : κ × V) (q : κ × Value) => p.1 = q.1 ∧ RelV p.2 q.2

/-- a key of a dict (00_mix): an int or a text -/
def kV : Key → V
  | .inl i => .int i
  | .inr x => .str x

/-- what stands at a tracked address -/
inductive HO where
  /-- a list -/
  | lst (xs : List V)
  /-- a tuple (never changes) -/
  | tup (xs : List V)
  /-- a dict whose keys are ints and texts; one whose keys are tuples of ints and texts (the empty one is both) -/
  | dK (kvs : List (Key × V)) | dT (kvs : List (List Key × V))
  /-- a set of ints: its members, its size -/
  | set (S : Int → Bool) (n : Nat)
  /-- an instance of the class at C, its dict at dx, its attributes -/
  | ins (C dx : Addr) (fs : List (Str × V))
  /-- the dict of the instance at x -/
  | own (x : Addr)
  /-- the dict of an exception -/
  | xd (fs : List (Str × V))
  /-- a bound method, f of x -/
  | met (f x : Addr)
  /-- a range object lo, lo + 1, .. below hi -/
  | rng (lo hi : Int)
  /-- a thing that is known to the object (the script; a dict while a loop walks it): read, never written while it is so -/
  | frz (o : Obj) (u : HO)
  /-- a code object's table -/
  | tbl (ps : Array Value)
  /-- any other thing, by what is true of its one object (a def of one's own: SetO a S n := HO.ext fun h => ..) -/
  | ext (φ : Heap → Prop)

abbrev Hp := Addr → Option HO
def upd (H : Hp) (a : Addr) (o : HO) : Hp := fun b => if b = a then some o else H b
theorem upd_same {H : Hp} {a : Addr} {o : HO} : upd H a o a = some o := by unfold upd; rw [if_pos rfl]
theorem upd_ne {H : Hp} {a b : Addr} {o : HO} (h : b ≠ a) : upd H a o b = H b := by unfold upd; rw [if_neg h]
/-- two objects of different content stand apart -/
theorem ne_of {H : Hp} {a b : Addr} {o u : HO} (h : H a = some o) (h' : H b = some u) (d : o ≠ u) : a ≠ b := by
  intro e; subst e; rw [h] at h'; exact d (Option.some.inj h')
theorem ne_of_none {H : Hp} {a b : Addr} {o : HO} (h : H a = some o) (h' : H b = none) : a ≠ b := by
  intro e; subst e; rw [h] at h'; cases h'

section
variable (P : Program) (w : World)
def ObjOk (H : Hp) (h : Heap) (a : Addr) : HO → Prop
  | .lst xs => xs.length ≤ sizeLine ∧ ∃ (its : List Value) (n : Nat), Vals xs its ∧ h.get? a = some { cls := .type "list", data := .seq its.toArray n }
  | .tup xs => xs.length ≤ sizeLine ∧ ∃ its : List Value, Vals xs its ∧ IsTup h a its.toArray
  | .dK kvs => kvs.length ≤ sizeLine ∧ (a == sysModules) = false ∧ ∃ vs, KV kvs vs ∧ h.DictOf (mixKind P w) a vs
  | .dT kvs => kvs.length ≤ sizeLine ∧ (a == sysModules) = false ∧ ∃ xs : List (List Key × Addr × Value),
      Paired (fun (p : List Key × V) (q : List Key × Addr × Value) => p.1 = q.1 ∧ H q.2.1 = some (.tup (p.1.map kV)) ∧ RelV p.2 q.2.2) kvs xs ∧
      ∃ o es ep, h.get? a = some o ∧ o.ExactDict ∧ o.data = .dict es ep ∧ es.toList = xs.map (entryOfKey (tupleKind (mixKind P w))) ∧ (xs.map (·.1)).Nodup
  | .set S n => h.SetOf (intKind P w) a S n
  | .ins C dx fs => H dx = some (.own a) ∧ fs.length ≤ 1000 ∧ dx ≠ a ∧ h.get? a = some (PySem.W.instObj C dx) ∧
      ∃ mA, h.Ns1 dx mA ∧ (∀ f, RelO (fs.lookup f) (mA f)) ∧ PySem.Within mA (fs.map (·.1))
  | .own _ => ∃ o, h.get? a = some o
  | .xd fs => ∃ mA, h.Ns1 a mA ∧ ∀ f, RelO (fs.lookup f) (mA f)
  | .rng lo hi => ∃ t u v, h.get? a = some { cls := .type "range", data := .fields #[.int lo t, .int hi u, .int 1 v] }
  | .frz o u => h.get? a = some o ∧ ObjOk H h a u
  | .tbl ps => h.get? a = some { cls := .none, data := .fields ps }
  | .met f x => h.get? a = some (PySem.W.methodObj (.ref f) (.ref x))
  | .ext φ => φ h ∧ (∃ o, h.get? a = some o) ∧ ∀ h1 h2 : Heap, φ h1 → (∀ o, h1.get? a = some o → h2.get? a = some o) → φ h2
/-- the abstract heap is held -/
def HOk (H : Hp) (h : Heap) : Prop := ∀ a o, H a = some o → ObjOk P w H h a o
end

section
variable {P : Program} {w : World} {H H' : Hp} {h h' : Heap} {a : Addr} {o : HO}
theorem ObjOk.lt (x : ObjOk P w H h a o) : a < h.objs.size := by
  cases o with
  | lst xs => obtain ⟨_, _, _, _, e⟩ := x; exact Heap.lt_size e
  | tup xs => obtain ⟨_, _, _, p⟩ := x; exact p.lt
  | dK kvs => obtain ⟨_, _, _, _, o, _, _, e, _⟩ := x; exact Heap.lt_size e
  | dT kvs => obtain ⟨_, _, _, _, o, _, _, e, _⟩ := x; exact Heap.lt_size e
  | set S n => obtain ⟨o, _, _, _, e, _⟩ := x; exact Heap.lt_size e
  | ins C dx fs => obtain ⟨_, _, _, e, _⟩ := x; exact Heap.lt_size e
  | own y => obtain ⟨_, e⟩ := x; exact Heap.lt_size e
  | xd fs => obtain ⟨_, ⟨_, _, _, e, _⟩, _⟩ := x; exact Heap.lt_size e
  | rng lo hi => obtain ⟨_, _, _, e⟩ := x; exact Heap.lt_size e
  | frz ob u => obtain ⟨e, _⟩ := x; exact Heap.lt_size e
  | tbl ps => exact Heap.lt_size (show h.get? a = some _ from x)
  | met f y => exact Heap.lt_size (show h.get? a = some _ from x)
  | ext φ => obtain ⟨_, ⟨_, e⟩, _⟩ := x; exact Heap.lt_size e
theorem Paired.mapP {α β : Type} {F G : α → β → Prop} : ∀ {l₁ : List α} {l₂ : List β}, Paired F l₁ l₂ → (∀ a b, F a b → G a b) → Paired G l₁ l₂
  | _, _, .nil, _ => .nil
  | _, _, .cons r t, f => .cons (f _ _ r) (Paired.mapP t f)
/-- what an object's description leans on: its own object, its own dict, the tuples -/
theorem ObjOk.stay (x : ObjOk P w H h a o) (k : ∀ b u, (b = a ∨ H b = some (.own a)) → h.get? b = some u → h'.get? b = some u)
    (ho : ∀ b, H b = some (.own a) → H' b = some (.own a)) (ht : ∀ b xs, H b = some (.tup xs) → H' b = some (.tup xs)) : ObjOk P w H' h' a o := by
  induction o with
  | lst xs => obtain ⟨z, its, n, r, e⟩ := x; exact ⟨z, its, n, r, k _ _ (.inl rfl) e⟩
  | tup xs => obtain ⟨z, its, r, ob, e, c⟩ := x; exact ⟨z, its, r, ob, k _ _ (.inl rfl) e, c⟩
  | dK kvs => obtain ⟨z, y, vs, r, ob, es, ep, e, c⟩ := x; exact ⟨z, y, vs, r, ob, es, ep, k _ _ (.inl rfl) e, c⟩
  | dT kvs =>
    obtain ⟨z, y, xs, r, ob, es, ep, e, c⟩ := x
    exact ⟨z, y, xs, Paired.mapP r fun p q z => ⟨z.1, ht _ _ z.2.1, z.2.2⟩, ob, es, ep, k _ _ (.inl rfl) e, c⟩
  | set S n => obtain ⟨ob, es, ep, t, e, c⟩ := x; exact ⟨ob, es, ep, t, k _ _ (.inl rfl) e, c⟩
  | ins C dx fs =>
    obtain ⟨d, z, ne, e, mA, ⟨od, es, ep, e2, c⟩, r⟩ := x
    exact ⟨ho _ d, z, ne, k _ _ (.inl rfl) e, mA, ⟨od, es, ep, k _ _ (.inr d) e2, c⟩, r⟩
  | own y => obtain ⟨ob, e⟩ := x; exact ⟨ob, k _ _ (.inl rfl) e⟩
  | xd fs => obtain ⟨mA, ⟨od, es, ep, e, c⟩, r⟩ := x; exact ⟨mA, ⟨od, es, ep, k _ _ (.inl rfl) e, c⟩, r⟩
  | rng lo hi => obtain ⟨t, u, v, e⟩ := x; exact ⟨t, u, v, k _ _ (.inl rfl) e⟩
  | frz ob u ih => obtain ⟨e, q⟩ := x; exact ⟨k _ _ (.inl rfl) e, ih q⟩
  | tbl ps =>
    have e : h.get? a = some { cls := .none, data := .fields ps } := x
    show h'.get? a = some { cls := .none, data := .fields ps }
    exact k a _ (.inl rfl) e
  | met f y =>
    have e : h.get? a = some (PySem.W.methodObj (.ref f) (.ref y)) := x
    show h'.get? a = some (PySem.W.methodObj (.ref f) (.ref y))
    exact k a _ (.inl rfl) e
  | ext φ => obtain ⟨p, ⟨o, e⟩, st⟩ := x; exact ⟨st _ _ p fun o q => k _ _ (.inl rfl) q, ⟨o, k _ _ (.inl rfl) e⟩, st⟩
theorem HOk.lt (x : HOk P w H h) (e : H a = some o) : a < h.objs.size := (x a o e).lt
theorem HOk.fresh (x : HOk P w H h) (e : h.objs.size ≤ a) : H a = none := by
  cases q : H a with
  | none => rfl
  | some u => exact absurd (Nat.lt_of_lt_of_le (x.lt q) e) (Nat.lt_irrefl _)
/-- every object of the heap is kept -/
theorem HOk.kept (x : HOk P w H h) (k : ∀ b u, h.get? b = some u → h'.get? b = some u) : HOk P w H h' := fun a o e =>
  (x a o e).stay (fun b u _ q => k b u q) (fun _ q => q) fun _ _ q => q
/-- a new object is laid and tracked -/
theorem HOk.laid (x : HOk P w H h) (k : ∀ b u, h.get? b = some u → h'.get? b = some u) (hp : h.objs.size ≤ a) (new : ObjOk P w (upd H a o) h' a o) : HOk P w (upd H a o) h' := fun b u e => by
  have hn := x.fresh hp
  by_cases hb : b = a
  · subst hb; rw [upd_same] at e; cases e; exact new
  · rw [upd_ne hb] at e
    exact (x b u e).stay (fun c v _ q => k c v q) (fun c q => by rw [upd_ne (ne_of_none q hn)]; exact q) fun c xs q => by rw [upd_ne (ne_of_none q hn)]; exact q
end

/-- what may be read as u: it is u, or a known u -/
def Rd (H : Hp) (a : Addr) (u : HO) : Prop := H a = some u ∨ ∃ o, H a = some (.frz o u)
theorem Rd.ok {P : Program} {w : World} {H : Hp} {h : Heap} {a : Addr} {u : HO} (r : Rd H a u) (x : HOk P w H h) : ObjOk P w H h a u := by
  rcases r with r | ⟨o, r⟩
  · exact x a u r
  · obtain ⟨_, q⟩ := x a _ r
    exact q
/-- what may be written -/
def Mut : Option HO → Prop
  | some (.lst _) => True
  | some (.dK _) => True
  | some (.dT _) => True
  | some (.set _ _) => True
  | some (.ins _ _ _) => True
  | some (.ext _) => True
  | _ => False
section
variable {P : Program} {w : World} {H : Hp} {h h' : Heap} {x e : Addr} {o' : HO}
/-- the object at e is changed: x itself, or the dict of the instance x -/
theorem HOk.write (ok : HOk P w H h) (mu : Mut (H x)) (he : e = x ∨ H e = some (.own x)) (k : ∀ b u, b ≠ e → h.get? b = some u → h'.get? b = some u) (heo : ∃ u, h'.get? e = some u)
    (new : ObjOk P w (upd H x o') h' x o') : HOk P w (upd H x o') h' := fun b u q => by
  have nown : ∀ c y, H c = some (.own y) → c ≠ x := fun c y r z => by subst z; rw [r] at mu; exact mu
  have ntup : ∀ c xs, H c = some (.tup xs) → c ≠ x := fun c xs r z => by subst z; rw [r] at mu; exact mu
  by_cases hb : b = x
  · subst hb; rw [upd_same] at q; cases q; exact new
  · rw [upd_ne hb] at q
    by_cases hbe : b = e
    · have q' : H b = some (.own x) := by
        rcases he with z | z
        · exact absurd (hbe.trans z) hb
        · rw [hbe]; exact z
      rw [q] at q'; cases q'
      obtain ⟨v, hv⟩ := heo
      exact ⟨v, by rw [hbe]; exact hv⟩
    · refine (ok b u q).stay (fun c v hc r => k c v ?_ r) (fun c r => by rw [upd_ne (nown c b r)]; exact r) fun c xs r => by rw [upd_ne (ntup c xs r)]; exact r
      rcases hc with rfl | hc
      · exact hbe
      · rintro rfl
        rcases he with z | z
        · exact nown c b hc z
        · rw [hc] at z; cases z; exact hb rfl
end

/-! ### kept unless tracked; of the frames at fs (the callers') the slots may change (an exception that passes writes there); of the records at ex (iterators) nothing is said -/
structure Un (fs ex : List Addr) (H H' : Hp) (h h' : Heap) : Prop where
  keep : ∀ b o, h.get? b = some o → H b = none → b ∉ fs → b ∉ ex → h'.get? b = some o
  slot : ∀ b o, h.get? b = some o → H b = none → b ∈ fs → b ∉ ex → ∃ sl, h'.get? b = some { o with slots := sl }
  free : ∀ b o, h.get? b = some o → H b = none → b ∉ ex → H' b = none
  there : ∀ b o, h.get? b = some o → b ∉ ex → ∃ o', h'.get? b = some o'
  tups : ∀ b xs, H b = some (.tup xs) → H' b = some (.tup xs)
  frzs : ∀ b o u, H b = some (.frz o u) → H' b = some (.frz o u)
  tbls : ∀ b ps, H b = some (.tbl ps) → ∃ more, H' b = some (.tbl (ps ++ more))
section
variable {fs fs' ex ex' : List Addr} {H H1 H2 : Hp} {h h1 h2 h' : Heap} {a x e : Addr} {o : HO}
theorem Un.any (u : Un fs ex H H1 h h1) {b : Addr} {ob : Obj} (q : h.get? b = some ob) (n : H b = none) (hx : b ∉ ex) : ∃ sl, h1.get? b = some { ob with slots := sl } := by
  by_cases hb : b ∈ fs
  · exact u.slot b ob q n hb hx
  · exact ⟨ob.slots, u.keep b ob q n hb hx⟩
theorem Un.kept (k : ∀ b u, h.get? b = some u → h'.get? b = some u) : Un fs ex H H h h' :=
  ⟨fun b ob q _ _ _ => k b ob q, fun b ob q _ _ _ => ⟨ob.slots, k b ob q⟩, fun _ _ _ n _ => n, fun b ob q _ => ⟨ob, k b ob q⟩, fun _ _ q => q, fun _ _ _ q => q, fun _ ps q => ⟨#[], by rw [q]; simp⟩⟩
theorem Un.refl : Un fs ex H H h h := Un.kept fun _ _ q => q
theorem Un.laid (k : ∀ b u, h.get? b = some u → h'.get? b = some u) (hp : h.objs.size ≤ a) (hn : H a = none) : Un fs ex H (upd H a o) h h' where
  keep := fun b u q _ _ _ => k b u q
  slot := fun b u q _ _ _ => ⟨u.slots, k b u q⟩
  free := fun b u q n _ => by rw [upd_ne (Nat.ne_of_lt (Nat.lt_of_lt_of_le (Heap.lt_size q) hp))]; exact n
  there := fun b u q _ => ⟨u, k b u q⟩
  tups := fun b xs q => by rw [upd_ne (ne_of_none q hn)]; exact q
  frzs := fun b u xs q => by rw [upd_ne (ne_of_none q hn)]; exact q
  tbls := fun b ps q => ⟨#[], by rw [upd_ne (ne_of_none q hn), q]; simp⟩
theorem Un.write (mu : Mut (H x)) (he : e = x ∨ H e = some (.own x)) (k : ∀ b u, b ≠ e → h.get? b = some u → h'.get? b = some u) (heo : ∃ u, h'.get? e = some u) : Un fs ex H (upd H x o) h h' := by
  have hx : ∀ b, H b = none → b ≠ x := fun b n z => by subst z; rw [n] at mu; exact mu
  have hb : ∀ b, H b = none → b ≠ e := fun b n z => by
    subst z
    rcases he with r | r
    · exact hx b n r
    · rw [n] at r; cases r
  have hm : ∀ b u, H b = some u → ¬ Mut (some u) → b ≠ x := fun b u q nm z => by subst z; rw [q] at mu; exact nm mu
  refine ⟨fun b u q n _ _ => k b u (hb b n) q, fun b u q n _ _ => ⟨u.slots, k b u (hb b n) q⟩, fun b u q n _ => by rw [upd_ne (hx b n)]; exact n, fun b u q _ => ?_,
    fun b xs q => by rw [upd_ne (hm b _ q fun z => z)]; exact q, fun b u xs q => by rw [upd_ne (hm b _ q fun z => z)]; exact q, fun b ps q => ⟨#[], by rw [upd_ne (hm b _ q fun z => z), q]; simp⟩⟩
  by_cases hbe : b = e
  · subst hbe; exact heo
  · exact ⟨u, k b u hbe q⟩
end

/-! ### the heap without what is tracked -/
def trk (h : Heap) (H : Hp) : List Addr := (List.range h.objs.size).filter fun a => (H a).isSome
def hidT (h : Heap) (H : Hp) : Heap := PySem.W.hideAll h (trk h H)
theorem hidT_size (h : Heap) (H : Hp) : (hidT h H).objs.size = h.objs.size := PySem.W.hideAll_size _ _
theorem hidT_get {h : Heap} {H : Hp} {b : Addr} {o : Obj} (e : h.get? b = some o) (n : H b = none) : (hidT h H).get? b = some o :=
  PySem.W.hideAll_get _ e fun hm => by
    have q : (H b).isSome = true := (List.mem_filter.mp hm).2
    rw [n] at q; simp at q
theorem of_hidT {h : Heap} {H : Hp} {b : Addr} {o : Obj} (e : (hidT h H).get? b = some o) : h.get? b = some o ∧ H b = none := by
  have e' : h.get? b = some o := PySem.W.of_hideAll (trk h H) e
  refine ⟨e', ?_⟩
  cases q : H b with
  | none => rfl
  | some x =>
    have hm : b ∈ trk h H := List.mem_filter.mpr ⟨List.mem_range.mpr (Heap.lt_size e'), by simp [q]⟩
    have z : (hidT h H).get? b = none := PySem.W.hideAll_none (trk h H) hm
    rw [z] at e; cases e

/-! ### OpenK's ledger, filled with every new object but one -/
def allNews (g h : Heap) (L : Addr) : List (Addr × Obj) := (List.range h.objs.size).filterMap fun a => if a = L ∨ (g.get? a).isSome = true then none else (h.get? a).map fun o => (a, o)
def rest (g h : Heap) (L d : Addr) : List (Addr × Obj) := (allNews g h L).filter fun p => decide (p.1 ≠ d)
end L2

namespace L2
open PySem PySem.Spec PyProof.Rows

/-- the module's facts, over the base: the heap at the law's entry without what is tracked there -/
structure Mod (K : PySem.W.Frag) (mg : Str → Option Value) (base : Heap) : Prop where
  kin : K.In base
  glob : base.Ns mainGlobals mg
  blt : ∃ mb, base.Ns builtinsNs mb ∧ ∀ x : Str, x ≠ "__name__" → mb x = bootBuiltins x
  nolimit : base.NoLimit

/-- the context: a def's body (or a comprehension's block) running. base: fixed through the whole law; s₀, H₀: the entry; outer: the frames whose slots others may change (a def's callers); stack: all frames that run;
   ex: iterators that were made ahead of the entry and are walked here (a comprehension's); fn: the names whose cells were made at the entry (a def: all; a comprehension's block: its own); calm: not within an except suite; pn: pins that every state bears; xe: what is wanted of an exception that leaves the code -/
structure Cx where
  prog : Program
  w : World
  K : PySem.W.Frag
  mg : Str → Option Value
  base : Heap
  A : Around
  N : List Str
  s₀ : Shared
  H₀ : Hp
  env : Env
  outer : List Env
  stack : List Env
  ex : List Addr
  fn : Str → Bool
  calm : Bool
  pn : List (Addr × Obj)
  xe : Value → Shared → Prop
/-- the callers' frames -/
def frs (l : List Env) : List Addr := l.filterMap (·.frame)
abbrev Cx.fs (X : Cx) : List Addr := frs X.outer

def Vis (sc : Scope) (x : Str) : Prop := sc.names.lookup x = some .local ∨ sc.names.lookup x = some .cell ∨ sc.names.lookup x = some .free
def Loc (sc : Scope) (x : Str) : Prop := sc.names.lookup x = some .local ∨ sc.names.lookup x = some .cell
def Look (env : Env) (h : Heap) (m : Str → Option Value) (x : Str) (u : Value) : Prop :=
  (env.kindOf x = some .local ∧ m x = some u) ∨ ((env.kindOf x = some .cell ∨ env.kindOf x = some .free) ∧ ∃ c, env.cells.lookup x = some c ∧ h.IsCell c (some u))

structure Cx.Ok (X : Cx) : Prop where
  mod : Mod X.K X.mg X.base
  kind : X.env.scope.kind = .function
  glob : X.env.globals = mainGlobals
  blt : X.env.builtins = builtinsNs
  above : X.s₀.heap.objs.size ≤ X.env.locals
  inj : ∀ x y c, X.env.cells.lookup x = some c → X.env.cells.lookup y = some c → x = y
  has : ∀ x, (X.env.kindOf x = some .cell ∨ X.env.kindOf x = some .free) → ∃ c, X.env.cells.lookup x = some c
  cab : ∀ x c, X.fn x = true → X.env.cells.lookup x = some c → X.s₀.heap.objs.size ≤ c
  hd : X.calm = true → X.A.handled = none
  frames : X.A.frames = some X.stack
  stk : X.stack = X.outer ∨ (X.stack = X.env :: X.outer ∧ X.env.frame = some X.env.locals)
  exf : ∀ b ∈ X.ex, b ≠ X.env.locals ∧ ∀ x c, X.env.cells.lookup x = some c → c ≠ b
  bs : ∀ b o, X.base.get? b = some o → X.s₀.heap.get? b = some o ∧ X.H₀ b = none
  bsz : X.base.objs.size ≤ X.s₀.heap.objs.size
  noex : ∀ b o, X.base.get? b = some o → b ∉ X.ex
  exfs : ∀ b ∈ X.ex, b ∉ X.fs
  funs : X.s₀.heap.FunFrames X.base X.outer
  frf : ∀ b ∈ X.fs, X.H₀ b = none

structure Inv (X : Cx) (pins : List (Addr × Obj)) (σ : List (Option V)) (H : Hp) (s : Shared) : Prop where
  ok : X.Ok
  os : s.os = X.s₀.os
  bare : AllBare s.gens
  base : Un X.fs X.ex X.H₀ H X.s₀.heap s.heap
  loc : ∃ m, s.heap.Ns X.env.locals m ∧ ∀ (i : Nat) (x : Str) (v : V), X.N[i]? = some x → σ[i]? = some (some v) → Vis X.env.scope x → ∃ u, RelV v u ∧ Look X.env s.heap m x u
  cell : ∀ x c, X.env.cells.lookup x = some c → ∃ v, s.heap.IsCell c v
  free : H X.env.locals = none
  freeC : ∀ x c, X.env.cells.lookup x = some c → H c = none
  pin : ∀ p ∈ X.pn ++ pins, s.heap.get? p.1 = some p.2 ∧ H p.1 = none ∧ p.1 ≠ X.env.locals ∧ p.1 ∉ X.fs ∧ ∀ v, p.2.data ≠ .cell v
  hok : HOk X.prog X.w H s.heap
  len : σ.length = X.N.length

section
variable {X : Cx} {pins : List (Addr × Obj)} {σ : List (Option V)} {H H' : Hp} {s : Shared} {h' : Heap}

theorem Cx.Ok.nofr (ok : X.Ok) {b : Addr} {o : Obj} (e : X.base.get? b = some o) : b ∉ X.fs := fun hb => by
  have := (ok.funs.mem hb).1
  rw [e] at this; cases this
theorem Inv.bs (I : Inv X pins σ H s) : ∀ b o, X.base.get? b = some o → s.heap.get? b = some o ∧ H b = none := fun b o e =>
  ⟨I.base.keep b o (I.ok.bs b o e).1 (I.ok.bs b o e).2 (I.ok.nofr e) (I.ok.noex b o e), I.base.free b o (I.ok.bs b o e).1 (I.ok.bs b o e).2 (I.ok.noex b o e)⟩
theorem Inv.bk (I : Inv X pins σ H s) : ∀ b o, X.base.get? b = some o → s.heap.get? b = some o := fun b o e => (I.bs b o e).1
theorem Inv.mod (I : Inv X pins σ H s) : Mod X.K X.mg X.base := I.ok.mod
theorem Inv.kIn (I : Inv X pins σ H s) : X.K.In s.heap := I.ok.mod.kin.keeps I.bk
theorem Inv.lt (I : Inv X pins σ H s) : X.env.locals < s.heap.objs.size := let ⟨_, hn, _⟩ := I.loc; hn.lt
theorem Inv.sz (I : Inv X pins σ H s) : X.s₀.heap.objs.size ≤ s.heap.objs.size := Nat.le_trans I.ok.above (Nat.le_of_lt I.lt)
theorem Inv.nofs (I : Inv X pins σ H s) {a : Addr} (h : s.heap.objs.size ≤ a) : a ∉ X.fs := fun hb => by
  obtain ⟨_, o, ho, _⟩ := I.ok.funs.mem hb
  exact absurd (Nat.lt_of_lt_of_le (Heap.lt_size ho) (Nat.le_trans I.sz h)) (Nat.lt_irrefl _)
theorem Inv.cne (I : Inv X pins σ H s) : ∀ x c, X.env.cells.lookup x = some c → c ≠ X.env.locals := fun x c e z => by
  obtain ⟨v, o, ho, hd⟩ := I.cell x c e
  obtain ⟨m, ⟨o', es, ep, ho', hd', _⟩, _⟩ := I.loc
  rw [z, ho'] at ho; cases ho; rw [hd'] at hd; cases hd
theorem Inv.funs (I : Inv X pins σ H s) : s.heap.FunFrames X.base X.outer := by
  have all : ∀ (l : List Env), (∀ b ∈ frs l, b ∈ X.fs) → X.s₀.heap.FunFrames X.base l → s.heap.FunFrames X.base l := by
    intro l
    induction l with
    | nil => intro _ _; trivial
    | cons env r ih =>
      intro hs hl
      obtain ⟨hk, ⟨L, o, hf, hn, ho, hd⟩, hr⟩ := hl
      have hL : L ∈ X.fs := hs L (by unfold frs; rw [List.filterMap_cons, hf]; exact List.mem_cons_self)
      obtain ⟨sl, e⟩ := I.base.slot L o ho (I.ok.frf L hL) hL fun z => I.ok.exfs L z hL
      exact ⟨hk, ⟨L, _, hf, hn, e, hd⟩, ih (fun b hb => hs b (by unfold frs; rw [List.filterMap_cons, hf]; exact List.mem_cons_of_mem _ hb)) hr⟩
  exact all X.outer (fun _ hb => hb) I.ok.funs

/-- the frames that run, for a call -/
theorem Inv.stack (I : Inv X pins σ H s) : s.heap.FunFrames X.base X.stack := by
  rcases I.ok.stk with e | ⟨e, hf⟩
  · rw [e]; exact I.funs
  · rw [e]
    obtain ⟨m, hn, _⟩ := I.loc
    refine .cons (by rw [I.ok.kind]; decide) hf hn ?_ I.funs
    exact Heap.get?_none_of_le (Nat.le_trans I.ok.bsz I.ok.above)
theorem Inv.stkSub (I : Inv X pins σ H s) : ∀ b ∈ frs X.stack, b ∈ X.env.locals :: X.fs := fun b hb => by
  rcases I.ok.stk with e | ⟨e, hf⟩
  · rw [e] at hb; exact List.mem_cons_of_mem _ hb
  · rw [e] at hb
    unfold frs at hb
    rw [List.filterMap_cons, hf] at hb
    exact hb
theorem Inv.stkFree (I : Inv X pins σ H s) : ∀ b ∈ frs X.stack, H b = none := fun b hb => by
  rcases List.mem_cons.mp (I.stkSub b hb) with e | hb
  · rw [e]; exact I.free
  · obtain ⟨_, o, ho, _⟩ := I.ok.funs.mem hb
    exact I.base.free b o ho (I.ok.frf b hb) fun z => I.ok.exfs b z hb

/-- THE STEP: the untracked objects but the frame and the records at ch are kept (the callers' frames up to slots), the frame's map is kept, the new abstract heap is held -/
theorem Inv.step {g' : Array GenState} {t' : Nat} {d' : Drawn} {ch : List Addr} (I : Inv X pins σ H s)
    (hch : ∀ b ∈ ch, (b ∈ X.ex ∨ X.s₀.heap.objs.size ≤ b) ∧ b ≠ X.env.locals ∧ (∀ x c, X.env.cells.lookup x = some c → c ≠ b) ∧ ∀ p ∈ X.pn ++ pins, p.1 ≠ b)
    (keep : ∀ b o, b ≠ X.env.locals → b ∉ X.fs → b ∉ ch → s.heap.get? b = some o → H b = none → h'.get? b = some o)
    (slot : ∀ b o, b ≠ X.env.locals → b ∈ X.fs → b ∉ ch → s.heap.get? b = some o → H b = none → ∃ sl, h'.get? b = some { o with slots := sl }) (free : ∀ b o, b ∉ ch → s.heap.get? b = some o → H b = none → H' b = none)
    (there : ∀ b o, b ∉ ch → s.heap.get? b = some o → ∃ o', h'.get? b = some o')
    (tups : ∀ b xs, H b = some (.tup xs) → H' b = some (.tup xs)) (frzs : ∀ b o u, H b = some (.frz o u) → H' b = some (.frz o u)) (tbls : ∀ b ps, H b = some (.tbl ps) → ∃ more, H' b = some (.tbl (ps ++ more)))
    (ns : ∀ m, s.heap.Ns X.env.locals m → h'.Ns X.env.locals m) (hok : HOk X.prog X.w H' h') (hg : AllBare g') :
    Inv X pins σ H' { s with heap := h', gens := g', drawn := d', toks := t' } := by
  have neL : ∀ b o, X.s₀.heap.get? b = some o → b ≠ X.env.locals := fun b o e => Nat.ne_of_lt (Nat.lt_of_lt_of_le (Heap.lt_size e) I.ok.above)
  have neC : ∀ b o, X.s₀.heap.get? b = some o → b ∉ X.ex → b ∉ ch := fun b o e hx hb => by
    rcases (hch b hb).1 with z | z
    · exact hx z
    · exact absurd (Nat.lt_of_lt_of_le (Heap.lt_size e) z) (Nat.lt_irrefl _)
  have cellK : ∀ x c, X.env.cells.lookup x = some c → ∀ v, s.heap.IsCell c v → h'.IsCell c v := fun x c e v ⟨o, ho, hd⟩ => by
    have nch : c ∉ ch := fun z => (hch c z).2.2.1 x c e rfl
    by_cases hc : c ∈ X.fs
    · obtain ⟨sl, q⟩ := slot c o (I.cne x c e) hc nch ho (I.freeC x c e)
      exact ⟨_, q, hd⟩
    · exact ⟨o, keep c o (I.cne x c e) hc nch ho (I.freeC x c e), hd⟩
  refine ⟨I.ok, I.os, hg, ⟨fun b o e n hb hx => ?_, fun b o e n hb hx => ?_, fun b o e n hx => ?_, fun b o e hx => ?_, fun b xs e => tups b xs (I.base.tups b xs e), fun b o xs e => frzs b o xs (I.base.frzs b o xs e), fun b ps e => ?_⟩, ?_, fun x c e => ?_, ?_, fun x c e => ?_, fun p hp => ?_, hok, I.len⟩
  · exact keep b o (neL b o e) hb (neC b o e hx) (I.base.keep b o e n hb hx) (I.base.free b o e n hx)
  · obtain ⟨sl, e1⟩ := I.base.slot b o e n hb hx
    obtain ⟨sl', e2⟩ := slot b _ (neL b o e) hb (neC b o e hx) e1 (I.base.free b o e n hx)
    exact ⟨sl', e2⟩
  · obtain ⟨o', e1⟩ := I.base.there b o e hx
    exact free b o' (neC b o e hx) e1 (I.base.free b o e n hx)
  · obtain ⟨o', e1⟩ := I.base.there b o e hx
    exact there b o' (neC b o e hx) e1
  · obtain ⟨m1, e1⟩ := I.base.tbls b ps e
    obtain ⟨m2, e2⟩ := tbls b _ e1
    exact ⟨m1 ++ m2, by rw [e2, Array.append_assoc]⟩
  · obtain ⟨m, hn, hl⟩ := I.loc
    refine ⟨m, ns m hn, fun i x v e1 e2 e3 => ?_⟩
    obtain ⟨u, r, l⟩ := hl i x v e1 e2 e3
    refine ⟨u, r, ?_⟩
    rcases l with l | ⟨k, c, e, z⟩
    · exact .inl l
    · exact .inr ⟨k, c, e, cellK x c e _ z⟩
  · obtain ⟨v, z⟩ := I.cell x c e
    exact ⟨v, cellK x c e v z⟩
  · obtain ⟨m, ⟨o, _, _, ho, _⟩, _⟩ := I.loc
    exact free _ o (fun z => (hch _ z).2.1 rfl) ho I.free
  · obtain ⟨v, o, ho, hd⟩ := I.cell x c e
    exact free c o (fun z => (hch c z).2.2.1 x c e rfl) ho (I.freeC x c e)
  · obtain ⟨e, n, ne, nf, d⟩ := I.pin p hp
    have nch : p.1 ∉ ch := fun z => (hch p.1 z).2.2.2 p hp rfl
    exact ⟨keep p.1 p.2 ne nf nch e n, free p.1 p.2 nch e n, ne, nf, d⟩
/-- .. where the frame's own object is kept too -/
theorem Inv.un {t' : Nat} (I : Inv X pins σ H s) (u : Un X.fs [] H H' s.heap h') (hok : HOk X.prog X.w H' h') : Inv X pins σ H' { s with heap := h', toks := t' } := by
  obtain ⟨m, ⟨o, es, ep, ho, r⟩, _⟩ := id I.loc
  obtain ⟨sl, hL⟩ := u.any ho I.free (by simp)
  exact I.step (g' := s.gens) (d' := s.drawn) (ch := []) (fun _ z => nomatch z) (fun b o _ hb _ e n => u.keep b o e n hb (by simp)) (fun b o _ hb _ e n => u.slot b o e n hb (by simp)) (fun b o _ e n => u.free b o e n (by simp)) (fun b o _ e => u.there b o e (by simp)) u.tups u.frzs u.tbls (fun m' hm => by
    obtain ⟨o', es', ep', ho', r'⟩ := hm
    rw [ho] at ho'; cases ho'
    exact ⟨_, es', ep', hL, r'⟩) hok I.bare
/-- behind a call (or a comprehension's block): the slots of this frame may have changed too, the records at ch may have turned -/
theorem Inv.call {g' : Array GenState} {t' : Nat} {d' : Drawn} {ch : List Addr} (I : Inv X pins σ H s) (u : Un (frs X.stack) ch H H' s.heap h') (hok : HOk X.prog X.w H' h') (hg : AllBare g')
    (hch : ∀ b ∈ ch, (b ∈ X.ex ∨ X.s₀.heap.objs.size ≤ b) ∧ b ≠ X.env.locals ∧ (∀ x c, X.env.cells.lookup x = some c → c ≠ b) ∧ ∀ p ∈ X.pn ++ pins, p.1 ≠ b) :
    Inv X pins σ H' { s with heap := h', gens := g', drawn := d', toks := t' } := by
  obtain ⟨m, ⟨o, es, ep, ho, r⟩, _⟩ := id I.loc
  obtain ⟨sl, hL⟩ := u.any ho I.free fun z => (hch _ z).2.1 rfl
  exact I.step (ch := ch) hch (fun b o hL hb hc e n => u.keep b o e n (fun z => (List.mem_cons.mp (I.stkSub b z)).elim hL hb) hc) (fun b o _ _ hc e n => u.any e n hc) (fun b o hc e n => u.free b o e n hc) (fun b o hc e => u.there b o e hc) u.tups u.frzs u.tbls (fun m' hm => by
    obtain ⟨o', es', ep', ho', r'⟩ := hm
    rw [ho] at ho'; cases ho'
    exact ⟨_, es', ep', hL, r'⟩) hok hg
/-- an untracked record of ours (an iterator) has turned -/
theorem Inv.turned {t' : Nat} {it : Addr} (I : Inv X pins σ H s) (k : ∀ b o, b ≠ it → s.heap.get? b = some o → h'.get? b = some o) (hn : H it = none) (hL : it ≠ X.env.locals)
    (h1 : it ∈ X.ex ∨ X.s₀.heap.objs.size ≤ it) (h2 : ∀ x c, X.env.cells.lookup x = some c → c ≠ it) (h3 : ∀ p ∈ X.pn ++ pins, p.1 ≠ it) : Inv X pins σ H { s with heap := h', toks := t' } := by
  have nit : ∀ b u, H b = some u → b ≠ it := fun b u e z => by rw [z, hn] at e; cases e
  refine I.step (g' := s.gens) (d' := s.drawn) (ch := [it]) (fun b hb => ?_) (fun b o _ _ hc e _ => k b o (fun z => hc (by simp [z])) e) (fun b o _ _ hc e _ => ⟨o.slots, k b o (fun z => hc (by simp [z])) e⟩) (fun _ _ _ _ n => n)
    (fun b o hc e => ⟨o, k b o (fun z => hc (by simp [z])) e⟩) (fun _ _ e => e) (fun _ _ _ e => e) (fun b ps e => ⟨#[], by rw [e]; simp⟩) (fun m hm => ?_) (fun b u e => ?_) I.bare
  · have e : b = it := by simpa using hb
    subst e
    exact ⟨h1, hL, h2, h3⟩
  · obtain ⟨o, es, ep, ho, r⟩ := hm
    exact ⟨o, es, ep, k _ o (Ne.symm hL) ho, r⟩
  · refine (I.hok b u e).stay (fun c v hc q => k c v ?_ q) (fun _ q => q) fun _ _ q => q
    rcases hc with z | z
    · rw [z]; exact nit b u e
    · exact nit c _ z
theorem Inv.tok (I : Inv X pins σ H s) (t : Nat) : Inv X pins σ H { s with toks := t } := I.un (h' := s.heap) (t' := t) Un.refl I.hok
/-- all objects kept -/
theorem Inv.kept {t' : Nat} (I : Inv X pins σ H s) (k : ∀ b u, s.heap.get? b = some u → h'.get? b = some u) : Inv X pins σ H { s with heap := h', toks := t' } := I.un (Un.kept k) (I.hok.kept k)
/-- a new object laid and tracked -/
theorem Inv.laid {a : Addr} {o : HO} {t' : Nat} (I : Inv X pins σ H s) (k : ∀ b u, s.heap.get? b = some u → h'.get? b = some u) (hp : s.heap.objs.size ≤ a) (new : ObjOk X.prog X.w (upd H a o) h' a o) :
    Inv X pins σ (upd H a o) { s with heap := h', toks := t' } := I.un (Un.laid k hp (I.hok.fresh hp)) (I.hok.laid k hp new)
/-- an object written -/
theorem Inv.write {x e : Addr} {o : HO} {t' : Nat} (I : Inv X pins σ H s) (mu : Mut (H x)) (he : e = x ∨ H e = some (.own x)) (k : ∀ b u, b ≠ e → s.heap.get? b = some u → h'.get? b = some u) (heo : ∃ u, h'.get? e = some u)
    (new : ObjOk X.prog X.w (upd H x o) h' x o) : Inv X pins σ (upd H x o) { s with heap := h', toks := t' } := I.un (Un.write mu he k heo) (I.hok.write mu he k heo new)
theorem Inv.pins_of {pins' : List (Addr × Obj)} (I : Inv X pins σ H s) (h : ∀ p ∈ pins', s.heap.get? p.1 = some p.2 ∧ H p.1 = none ∧ p.1 ≠ X.env.locals ∧ p.1 ∉ X.fs ∧ ∀ v, p.2.data ≠ .cell v) : Inv X pins' σ H s :=
  ⟨I.ok, I.os, I.bare, I.base, I.loc, I.cell, I.free, I.freeC, fun p hp => (List.mem_append.mp hp).elim (fun z => I.pin p (List.mem_append_left _ z)) (h p), I.hok, I.len⟩

theorem nodup_ix {N : List Str} (hN : N.Nodup) {i j : Nat} {x : Str} (a : N[i]? = some x) (b : N[j]? = some x) : i = j := by
  obtain ⟨h1, e1⟩ := List.getElem?_eq_some_iff.mp a
  obtain ⟨h2, e2⟩ := List.getElem?_eq_some_iff.mp b
  exact (List.getElem_inj hN).mp (e1.trans e2.symm)

/-- a name is stored; what changed -/
theorem store_ok2 {M : Model} {A : Around} {E : Value → Shared → Prop} {i : Nat} {x : Str} {v : V} {u : Value} {Q : Unit → Shared → Prop} (I : Inv X pins σ H s) (hN : X.N.Nodup) (hi : X.N[i]? = some x) (hx : Loc X.env.scope x) (r : RelV v u)
    (h : ∀ s', Inv X pins (σ.set i (some v)) H s' → (∃ a, Heap.SameBut a s.heap s'.heap ∧ (a = X.env.locals ∨ X.env.cells.lookup x = some a)) → Q () s') (hf : X.fn x = true ∨ X.env.scope.names.lookup x = some .local := by first | exact .inl rfl | exact .inr rfl | assumption) : wpAny M A (storeName X.env x u) Q E s := by
  obtain ⟨m, hn, hl⟩ := id I.loc
  have hcls : (X.env.scope.kind == .class || (X.env.scope.kind == .module && X.env.locals != X.env.globals)) = false := by rw [I.ok.kind]; rfl
  have hiσ : i < σ.length := by rw [I.len]; exact (List.getElem?_eq_some_iff.mp hi).1
  have cne := I.cne
  have tracked : ∀ {a : Addr} {h' : Heap}, (∃ o, s.heap.get? a = some o ∧ H a = none) → Heap.SameBut a s.heap h' → HOk X.prog X.w H h' := fun {a h'} ha hs b ob e => by
    obtain ⟨_, _, hfree⟩ := ha
    refine (I.hok b ob e).stay (fun c w' hc q => (hs.2 c ?_).trans q) (fun _ q => q) fun _ _ q => q
    rintro rfl
    rcases hc with rfl | hc
    · rw [hfree] at e; cases e
    · rw [hfree] at hc; cases hc
  rcases hx with hk | hk
  · refine wpAny_storeName_local hk hn (fun h' hn' hs => ?_) hcls
    obtain ⟨oL, _, _, hoL, _⟩ := id hn
    refine h _ ⟨I.ok, I.os, I.bare, ⟨fun b o e n hb hx => ?_, fun b o e n hb hx => ?_, I.base.free, fun b o e hx => ?_, I.base.tups, I.base.frzs, I.base.tbls⟩, ⟨_, hn', fun j y v' e1 e2 e3 => ?_⟩, fun y c e => ?_, I.free, I.freeC, fun p hp => ?_, tracked ⟨oL, hoL, I.free⟩ hs, by simpa using I.len⟩ ⟨_, hs, .inl rfl⟩
    · exact (hs.2 b (Nat.ne_of_lt (Nat.lt_of_lt_of_le (Heap.lt_size e) I.ok.above))).trans (I.base.keep b o e n hb hx)
    · obtain ⟨sl, e1⟩ := I.base.slot b o e n hb hx
      exact ⟨sl, (hs.2 b (Nat.ne_of_lt (Nat.lt_of_lt_of_le (Heap.lt_size e) I.ok.above))).trans e1⟩
    · obtain ⟨o', e1⟩ := I.base.there b o e hx
      exact ⟨o', (hs.2 b (Nat.ne_of_lt (Nat.lt_of_lt_of_le (Heap.lt_size e) I.ok.above))).trans e1⟩
    · by_cases hj : j = i
      · subst hj
        rw [hi] at e1; cases e1
        rw [List.getElem?_set_self hiσ] at e2
        cases e2
        exact ⟨u, r, .inl ⟨hk, by simp⟩⟩
      · rw [List.getElem?_set_ne (Ne.symm hj)] at e2
        obtain ⟨u', r', q⟩ := hl j y v' e1 e2 e3
        refine ⟨u', r', ?_⟩
        rcases q with ⟨k, e⟩ | ⟨k, c, e, z⟩
        · refine .inl ⟨k, ?_⟩
          have : y ≠ x := fun e => hj (nodup_ix hN e1 (e ▸ hi))
          simp [this, e]
        · exact .inr ⟨k, c, e, z.sameBut hs (cne y c e)⟩
    · obtain ⟨w', z⟩ := I.cell y c e
      exact ⟨w', z.sameBut hs (cne y c e)⟩
    · obtain ⟨e, n, ne, nf, d⟩ := I.pin p hp
      exact ⟨(hs.2 p.1 ne).trans e, n, ne, nf, d⟩
  · have hfn : X.fn x = true := by
      rcases hf with z | z
      · exact z
      · rw [z] at hk; cases hk
    obtain ⟨c, hc⟩ := I.ok.has x (.inl hk)
    obtain ⟨w', z⟩ := I.cell x c hc
    refine wpAny_storeName_cell I.ok.kind hk hc z (fun h' hc' hs => ?_)
    obtain ⟨oc, hoc, hocd⟩ := id z
    refine h { s with heap := h' } ⟨I.ok, I.os, I.bare, ⟨fun b o e n hb hx => ?_, fun b o e n hb hx => ?_, I.base.free, fun b o e hx => ?_, I.base.tups, I.base.frzs, I.base.tbls⟩, ⟨m, hn.sameBut hs (Ne.symm (cne x c hc)), fun j y v' e1 e2 e3 => ?_⟩, fun y c' e => ?_, I.free, I.freeC, fun p hp => ?_, tracked ⟨oc, hoc, I.freeC x c hc⟩ hs, by simpa using I.len⟩ ⟨c, hs, .inr hc⟩
    · exact (hs.2 b (Nat.ne_of_lt (Nat.lt_of_lt_of_le (Heap.lt_size e) (I.ok.cab x c hfn hc)))).trans (I.base.keep b o e n hb hx)
    · obtain ⟨sl, e1⟩ := I.base.slot b o e n hb hx
      exact ⟨sl, (hs.2 b (Nat.ne_of_lt (Nat.lt_of_lt_of_le (Heap.lt_size e) (I.ok.cab x c hfn hc)))).trans e1⟩
    · obtain ⟨o', e1⟩ := I.base.there b o e hx
      exact ⟨o', (hs.2 b (Nat.ne_of_lt (Nat.lt_of_lt_of_le (Heap.lt_size e) (I.ok.cab x c hfn hc)))).trans e1⟩
    · by_cases hj : j = i
      · subst hj
        rw [hi] at e1; cases e1
        rw [List.getElem?_set_self hiσ] at e2
        cases e2
        exact ⟨u, r, .inr ⟨.inl hk, c, hc, hc'⟩⟩
      · rw [List.getElem?_set_ne (Ne.symm hj)] at e2
        obtain ⟨u', r', q⟩ := hl j y v' e1 e2 e3
        refine ⟨u', r', ?_⟩
        rcases q with q | ⟨k, c', e, z'⟩
        · exact .inl q
        · refine .inr ⟨k, c', e, z'.sameBut hs ?_⟩
          rintro rfl
          exact hj (nodup_ix hN e1 (I.ok.inj _ _ _ e hc ▸ hi))
    · by_cases hcc : c' = c
      · subst hcc; exact ⟨_, hc'⟩
      · obtain ⟨w2, z2⟩ := I.cell y c' e
        exact ⟨w2, z2.sameBut hs hcc⟩
    · obtain ⟨e, n, ne, nf, d⟩ := I.pin p hp
      refine ⟨(hs.2 p.1 ?_).trans e, n, ne, nf, d⟩
      intro q
      rw [q, hoc] at e
      have q' : oc = p.2 := Option.some.inj e
      exact d w' (by rw [← q']; exact hocd)
theorem store_ok {M : Model} {A : Around} {E : Value → Shared → Prop} {i : Nat} {x : Str} {v : V} {u : Value} {Q : Unit → Shared → Prop} (I : Inv X pins σ H s) (hN : X.N.Nodup) (hi : X.N[i]? = some x) (hx : Loc X.env.scope x) (r : RelV v u)
    (h : ∀ s', Inv X pins (σ.set i (some v)) H s' → Q () s') (hf : X.fn x = true ∨ X.env.scope.names.lookup x = some .local := by first | exact .inl rfl | exact .inr rfl | assumption) : wpAny M A (storeName X.env x u) Q E s :=
  store_ok2 I hN hi hx r (fun s' I' _ => h s' I') hf
/-- behind a call or a block, the state as it is -/
theorem Inv.call' {s' : Shared} {ch : List Addr} (I : Inv X pins σ H s) (ho : s'.os = s.os) (u : Un (frs X.stack) ch H H' s.heap s'.heap) (hok : HOk X.prog X.w H' s'.heap) (hg : AllBare s'.gens)
    (hch : ∀ b ∈ ch, (b ∈ X.ex ∨ X.s₀.heap.objs.size ≤ b) ∧ b ≠ X.env.locals ∧ (∀ x c, X.env.cells.lookup x = some c → c ≠ b) ∧ ∀ p ∈ X.pn ++ pins, p.1 ≠ b) : Inv X pins σ H' s' := by
  obtain ⟨h', g', d', t', o'⟩ := s'
  have e : o' = s.os := ho
  subst e
  exact I.call (g' := g') (t' := t') (d' := d') u hok hg hch
end

/-! ### the judgements -/
/-- an exception: its class, its own dict's address (where it has one), the abstract heap behind it -/
abbrev XK := Value → Option Addr → Hp → Prop
abbrev St := List (Option V)
abbrev VK := V → Hp → Prop
/-- an expression's reading; a test's; an argument list's -/
abbrev TE := St → Hp → VK → Prop
abbrev TT := St → Hp → (Bool → Hp → Prop) → Prop
abbrev TA := St → Hp → (List V → Hp → Prop) → Prop
/-- what is wanted behind a statement -/
structure Ends where
  nx : St → Hp → Prop
  rt : VK
  bk : St → Hp → Prop := fun _ _ => False
  ct : St → Hp → Prop := fun _ _ => False
abbrev TS := Ends → St → Hp → Prop

def EP (X : Cx) (pins : List (Addr × Obj)) (σ : St) (Q : VK) (u : Value) (s' : Shared) : Prop := ∃ v H', Inv X pins σ H' s' ∧ RelV v u ∧ Q v H'
def TP (X : Cx) (pins : List (Addr × Obj)) (σ : St) (Q : Bool → Hp → Prop) (b : Bool) (s' : Shared) : Prop := ∃ H', Inv X pins σ H' s' ∧ Q b H'
def AP (X : Cx) (pins : List (Addr × Obj)) (σ : St) (Q : List V → Hp → Prop) (us : List Value) (s' : Shared) : Prop := ∃ vs H', Inv X pins σ H' s' ∧ Vals vs us ∧ Q vs H'
def SP (X : Cx) (pins : List (Addr × Obj)) (D : Ends) (f : Flow) (s' : Shared) : Prop :=
  match f with
  | .next => ∃ σ' H', Inv X pins σ' H' s' ∧ D.nx σ' H'
  | .brk => ∃ σ' H', Inv X pins σ' H' s' ∧ D.bk σ' H'
  | .cont => ∃ σ' H', Inv X pins σ' H' s' ∧ D.ct σ' H'
  | .ret u => ∃ v σ' H', Inv X pins σ' H' s' ∧ RelV v u ∧ D.rt v H'

def PE (X : Cx) (e : Expr) (t : TE) : Prop :=
  ∀ (pins : List (Addr × Obj)) (s : Shared) (σ : St) (H : Hp) (Q : VK), Inv X pins σ H s → t σ H Q → wpAny (model X.prog X.w) X.A (eval e X.env) (EP X pins σ Q) X.xe s
def PT (X : Cx) (e : Expr) (t : TT) : Prop :=
  ∀ (pins : List (Addr × Obj)) (s : Shared) (σ : St) (H : Hp) (Q : Bool → Hp → Prop), Inv X pins σ H s → t σ H Q → wpAny (model X.prog X.w) X.A (isTrue e X.env (eval e X.env)) (TP X pins σ Q) X.xe s
/-- a test whatever its 'whole' is (and, or) -/
def PW (X : Cx) (e : Expr) (t : TT) : Prop :=
  ∀ (whole : Sem Value) (pins : List (Addr × Obj)) (s : Shared) (σ : St) (H : Hp) (Q : Bool → Hp → Prop), Inv X pins σ H s → t σ H Q → wpAny (model X.prog X.w) X.A (isTrue e X.env whole) (TP X pins σ Q) X.xe s
theorem PW.pt {X : Cx} {e : Expr} {t : TT} (h : PW X e t) : PT X e t := h _
/-- an argument list (no star), from the left -/
def PA (X : Cx) (es : List Expr) (t : TA) : Prop :=
  ∀ (pos : Pos) (pins : List (Addr × Obj)) (s : Shared) (σ : St) (H : Hp) (Q : List V → Hp → Prop), Inv X pins σ H s → t σ H Q → wpAny (model X.prog X.w) X.A (spliced (backTo pos (starEach es X.env))) (AP X pins σ Q) X.xe s
def PS (X : Cx) (st : Stmt) (t : TS) : Prop :=
  ∀ (pins : List (Addr × Obj)) (s : Shared) (σ : St) (H : Hp) (D : Ends), Inv X pins σ H s → t D σ H → wpAny (model X.prog X.w) X.A (exec st X.env) (SP X pins D) X.xe s
def PSs (X : Cx) (st : List Stmt) (t : TS) : Prop :=
  ∀ (pins : List (Addr × Obj)) (s : Shared) (σ : St) (H : Hp) (D : Ends), Inv X pins σ H s → t D σ H → wpAny (model X.prog X.w) X.A (execs st X.env) (SP X pins D) X.xe s
/-- weaken the end -/
theorem thn {α : Type} {t : Sem α} {Q Q' : α → Shared → Prop} {M : Model} {A : Around} {E : Value → Shared → Prop} {s : Shared} (h : wpAny M A t Q E s) (hQ : ∀ a s, Q a s → Q' a s) : wpAny M A t Q' E s := wpAny_mono h hQ fun _ _ x => x
end L2

namespace L2
open PySem PySem.Spec PyProof.Rows
section
variable {X : Cx}

/-! ### names and constants -/
def tVar (i : Nat) : TE := fun σ H Q => ∃ v, σ[i]? = some (some v) ∧ Q v H
def tC (v : V) : TE := fun _ H Q => Q v H
theorem pe_var {i : Nat} {x : Str} {pos : Pos} (hN : X.N[i]? = some x) (hv : Vis X.env.scope x) (hd : (x == ("__debug__" : Str)) = false := by decide) (hcd : (x == ("__classdict__" : Str)) = false := by decide) : PE X (.Name x pos) (tVar i) := by
  intro pins s σ H Q I h
  obtain ⟨v, e, h⟩ := h
  obtain ⟨m, hn, hl⟩ := I.loc
  obtain ⟨u, r, l⟩ := hl i x v hN e hv
  have fin : EP X pins σ Q u s := ⟨v, H, I, r, h⟩
  rcases l with ⟨hk, hm⟩ | ⟨hk, c, hc, hcell⟩
  · exact wpAny_Name (wpAny_loadName_local I.ok.kind hk hn hm fin) hd
  · rcases hk with hk | hk
    · exact wpAny_Name (wpAny_loadName_cell I.ok.kind hk hc hcell fin) hd
    · exact wpAny_Name (wpAny_loadName_free I.ok.kind hk hc hcell fin hcd) hd
theorem pe_int {i j pos} : PE X (.Constant (.int i) j pos) (tC (.int i)) := fun _ _ _ H _ I h => wpAny_Constant_int ⟨.int i, H, I.tok _, ⟨_, rfl⟩, h⟩
theorem pe_bl {b j pos} : PE X (.Constant (.bool b) j pos) (tC (.bl b)) := fun _ _ _ H _ I h => Constant_bool ⟨.bl b, H, I, rfl, h⟩
theorem pe_str {x j pos} : PE X (.Constant (.str x) j pos) (tC (.str x)) := fun _ _ _ H _ I h => Calls.Constant_str ⟨.str x, H, I.tok _, ⟨_, rfl⟩, h⟩

/-- a global name of the def -/
def Gl (X : Cx) (x : Str) : Prop := X.env.kindOf x = some .globalImplicit
theorem ld_glob {E : Value → Shared → Prop} {pins : List (Addr × Obj)} {s : Shared} {σ : St} {H : Hp} {x : Str} {u : Value} {pos : Pos} {Q : Value → Shared → Prop} (I : Inv X pins σ H s) (hg : Gl X x) (hm : X.mg x = some u) (h : Q u s)
    (hd : (x == ("__debug__" : Str)) = false := by decide) : wpAny (model X.prog X.w) X.A (eval (.Name x pos) X.env) Q E s :=
  Calls.Name_function_global I.ok.kind hg (Calls.loadGlobal_global (by rw [I.ok.glob]; exact I.mod.glob.keeps I.bk) hm h) hd
theorem ld_blt {E : Value → Shared → Prop} {pins : List (Addr × Obj)} {s : Shared} {σ : St} {H : Hp} {x : Str} {u : Value} {pos : Pos} {Q : Value → Shared → Prop} (I : Inv X pins σ H s) (hg : Gl X x) (hm : X.mg x = none) (hv : bootBuiltins x = some u) (h : Q u s)
    (hn : x ≠ "__name__" := by decide) (hd : (x == ("__debug__" : Str)) = false := by decide) : wpAny (model X.prog X.w) X.A (eval (.Name x pos) X.env) Q E s := by
  obtain ⟨mb, h1, h2⟩ := I.mod.blt
  exact Calls.Name_function_global I.ok.kind hg (Calls.loadGlobal_builtin (by rw [I.ok.glob]; exact I.mod.glob.keeps I.bk) hm (by rw [I.ok.blt]; exact h1.keeps I.bk) ((h2 x hn).trans hv) h) hd
/-- a module's constant, a class, a function, as a value -/
theorem pe_glob {x : Str} {v : V} {u : Value} {pos : Pos} (hg : Gl X x) (hm : X.mg x = some u) (r : RelV v u) (hd : (x == ("__debug__" : Str)) = false := by decide) : PE X (.Name x pos) (tC v) :=
  fun _ _ _ H _ I h => ld_glob I hg hm ⟨v, H, I, r, h⟩ hd
theorem pe_bltn {x : Str} {v : V} {u : Value} {pos : Pos} (hg : Gl X x) (hm : X.mg x = none) (hv : bootBuiltins x = some u) (r : RelV v u) (hn : x ≠ "__name__" := by decide) (hd : (x == ("__debug__" : Str)) = false := by decide) : PE X (.Name x pos) (tC v) :=
  fun _ _ _ H _ I h => ld_blt I hg hm hv ⟨v, H, I, r, h⟩ hn hd

/-! ### arithmetic -/
/-- two ints -/
def t2I (ta tb : TE) (k : Int → Int → Hp → Prop) : St → Hp → Prop := fun σ H => ta σ H fun x H1 => tb σ H1 fun y H2 => ∃ i j, x = .int i ∧ y = .int j ∧ k i j H2
def tAdd (ta tb : TE) : TE := fun σ H Q => t2I ta tb (fun i j H2 => Q (.int (i + j)) H2) σ H
def tSub (ta tb : TE) : TE := fun σ H Q => t2I ta tb (fun i j H2 => Q (.int (i - j)) H2) σ H
/-- the left factor below 2^64 -/
def tMul (ta tb : TE) : TE := fun σ H Q => t2I ta tb (fun i j H2 => (-(2 ^ 64) < i ∧ i < 2 ^ 64) ∧ Q (.int (i * j)) H2) σ H
variable {a b : Expr} {ta tb : TE} {pos : Pos}
/-! ### comparisons -/
def PC (X : Cx) (op : CmpOp) (a b : Expr) (t : TE) : Prop :=
  ∀ (pins : List (Addr × Obj)) (s : Shared) (σ : St) (H : Hp) (Q : VK), Inv X pins σ H s → t σ H Q →
    wpAny (model X.prog X.w) X.A (eval a X.env) (fun v s₁ => wpAny (model X.prog X.w) X.A (eval b X.env) (fun u s₂ => wpAny (model X.prog X.w) X.A (compareOp op v u) (EP X pins σ Q) X.xe s₂) X.xe s₁) X.xe s
def tCmp (p : Int → Int → Bool) (ta tb : TE) : TE := fun σ H Q => t2I ta tb (fun i j H2 => Q (.bl (p i j)) H2) σ H
abbrev tLt : TE → TE → TE := tCmp fun i j => decide (i < j)
abbrev tLe : TE → TE → TE := tCmp fun i j => decide (i ≤ j)
abbrev tGt : TE → TE → TE := tCmp fun i j => decide (j < i)
abbrev tGe : TE → TE → TE := tCmp fun i j => decide (j ≤ i)
abbrev tEqI : TE → TE → TE := tCmp fun i j => decide (i = j)
abbrev tNeI : TE → TE → TE := tCmp fun i j => !decide (i = j)
/-- is None -/
def tIsN (ta : TE) : TE := fun σ H Q => ta σ H fun x H1 => Q (.bl (decide (x = .non))) H1
def tNotN (ta : TE) : TE := fun σ H Q => ta σ H fun x H1 => Q (.bl (!decide (x = .non))) H1
/-- a comparison as a value, as a test -/
def tB (t : TE) : TT := fun σ H Q => t σ H fun x H1 => ∃ c, x = .bl c ∧ Q c H1
theorem pt_cmp {op : CmpOp} {t : TE} (h : PC X op a b t) (h1 : behindInMarks op b = false := by first | exact nobehind _ (by decide) (by decide) | rfl) : PT X (.Compare a [op] [b] pos) (tB t) := by
  intro pins s σ H Q I hw
  refine wpAny_isTrue_Compare1 (thn (h pins s σ H _ I hw) fun v s1 h1 => thn h1 fun u s2 h2 => thn h2 fun c s3 ⟨x, H1, I1, r1, q1⟩ => ?_) h1
  obtain ⟨d, rfl, q⟩ := q1
  cases r1
  exact wpAny_truthy_bool ⟨H1, I1, q⟩
/-- an expression whose value is a bool, as a test -/
theorem pt_val {e : Expr} {t : TE} (h : PE X e t) (he : ∀ whole, isTrue e X.env whole = (do let v ← whole; standAt e.pos; holding [v] (truthy v)) := by intro _; rfl) : PT X e (tB t) := by
  intro pins s σ H Q I hw
  refine isTrue_plain (thn (h pins s σ H _ I hw) fun v s1 ⟨x, H1, I1, r1, q1⟩ => ?_) (he _)
  obtain ⟨d, rfl, q⟩ := q1
  cases r1
  exact wpAny_truthy_bool ⟨H1, I1, q⟩

/-! ### and, or, not -/
variable {tA tB' : TT} {rest : List Expr}
def tAnd (t u : TT) : TT := fun σ H Q => t σ H fun c H1 => if c = true then u σ H1 Q else Q false H1
def tOr (t u : TT) : TT := fun σ H Q => t σ H fun c H1 => if c = true then Q true H1 else u σ H1 Q
def tNot (t : TT) : TT := fun σ H Q => t σ H fun c H1 => Q (!c) H1
theorem pw_and1 (ha : PT X a tA) : PW X (.BoolOp .And [a] pos) tA := by
  intro wh pins s σ H Q I h
  refine isTrue_and (thn (ha pins s σ H Q I h) fun c s1 e => ?_)
  cases c with
  | true => exact isTrue_and_nil e
  | false => exact e
theorem pw_or1 (ha : PT X a tA) : PW X (.BoolOp .Or [a] pos) tA := by
  intro wh pins s σ H Q I h
  refine isTrue_or (thn (ha pins s σ H Q I h) fun c s1 e => ?_)
  cases c with
  | false => exact isTrue_or_nil e
  | true => exact e
theorem pw_and (ha : PT X a tA) (hb : PW X (.BoolOp .And (b :: rest) pos) tB') : PW X (.BoolOp .And (a :: b :: rest) pos) (tAnd tA tB') := by
  intro wh pins s σ H Q I h
  refine isTrue_and (thn (ha pins s σ H _ I h) fun c s1 ⟨H1, I1, q1⟩ => ?_)
  cases c with
  | true => exact hb wh pins s1 σ H1 Q I1 q1
  | false => exact ⟨H1, I1, q1⟩
theorem pw_or (ha : PT X a tA) (hb : PW X (.BoolOp .Or (b :: rest) pos) tB') : PW X (.BoolOp .Or (a :: b :: rest) pos) (tOr tA tB') := by
  intro wh pins s σ H Q I h
  refine isTrue_or (thn (ha pins s σ H _ I h) fun c s1 ⟨H1, I1, q1⟩ => ?_)
  cases c with
  | true => exact ⟨H1, I1, q1⟩
  | false => exact hb wh pins s1 σ H1 Q I1 q1
theorem pt_not (ha : PT X a tA) : PT X (.UnaryOp .Not a pos) (tNot tA) := by
  intro pins s σ H Q I h
  exact isTrue_not (ha pins s σ H (fun c H1 => Q (!c) H1) I h)
/-- .. as values (bools) -/
def tAndV (ta tb : TE) : TE := fun σ H Q => ta σ H fun x H1 => ∃ c, x = .bl c ∧ if c = true then tb σ H1 Q else Q (.bl false) H1
def tOrV (ta tb : TE) : TE := fun σ H Q => ta σ H fun x H1 => ∃ c, x = .bl c ∧ if c = true then Q (.bl true) H1 else tb σ H1 Q
def tNotV (ta : TE) : TE := fun σ H Q => ta σ H fun x H1 => ∃ c, x = .bl c ∧ Q (.bl (!c)) H1
theorem pe_one {op} {t : TE} (h : PE X a t) : PE X (.BoolOp op [a] pos) t := fun pins s σ H Q I hw => BoolOp_one (h pins s σ H Q I hw)
theorem pe_and (ha : PE X a ta) (hb : PE X (.BoolOp .And (b :: rest) pos) tb) : PE X (.BoolOp .And (a :: b :: rest) pos) (tAndV ta tb) := by
  intro pins s σ H Q I h
  refine BoolOp_and (thn (ha pins s σ H _ I h) fun v s1 ⟨x, H1, I1, r1, q1⟩ => ?_)
  obtain ⟨c, rfl, q1⟩ := q1
  cases r1
  refine wpAny_truthy_bool ?_
  cases c with
  | true => exact hb pins s1 σ H1 Q I1 q1
  | false => exact ⟨.bl false, H1, I1, rfl, q1⟩
theorem pe_or (ha : PE X a ta) (hb : PE X (.BoolOp .Or (b :: rest) pos) tb) : PE X (.BoolOp .Or (a :: b :: rest) pos) (tOrV ta tb) := by
  intro pins s σ H Q I h
  refine BoolOp_or (thn (ha pins s σ H _ I h) fun v s1 ⟨x, H1, I1, r1, q1⟩ => ?_)
  obtain ⟨c, rfl, q1⟩ := q1
  cases r1
  refine wpAny_truthy_bool ?_
  cases c with
  | false => exact hb pins s1 σ H1 Q I1 q1
  | true => exact ⟨.bl true, H1, I1, rfl, q1⟩
theorem pe_not (ha : PE X a ta) : PE X (.UnaryOp .Not a pos) (tNotV ta) := by
  intro pins s σ H Q I h
  refine UnaryOp_ (thn (ha pins s σ H _ I h) fun v s1 ⟨x, H1, I1, r1, q1⟩ => ?_)
  obtain ⟨c, rfl, q1⟩ := q1
  cases r1
  exact not_of (wpAny_truthy_bool ⟨.bl (!c), H1, I1, rfl, q1⟩)
/-- a if t else b -/
def tIf (t : TT) (ta tb : TE) : TE := fun σ H Q => t σ H fun c H1 => if c = true then ta σ H1 Q else tb σ H1 Q
end
end L2

namespace L2
open PySem PySem.Spec PyProof.Rows

/-! ### a list, a tuple that is read: tracked, frozen, or an object of the module -/
def SqL (K : PySem.W.Frag) (H : Hp) (a : Addr) (xs : List V) : Prop :=
  Rd H a (.lst xs) ∨
    ∃ (o : Obj) (its : Array Value) (n : Nat), K.lookup a = some o ∧ o.cls = .type "list" ∧ o.dict = none ∧ o.data = .seq its n ∧ its.size ≤ sizeLine ∧ Vals xs its.toList
def SqT (K : PySem.W.Frag) (H : Hp) (a : Addr) (xs : List V) : Prop :=
  Rd H a (.tup xs) ∨
    ∃ (o : Obj) (its : Array Value) (n : Nat), K.lookup a = some o ∧ o.cls = .type "tuple" ∧ o.data = .seq its n ∧ its.size ≤ sizeLine ∧ Vals xs its.toList
def absV : Value → Option V
  | .none => some .non
  | .bool b => some (.bl b)
  | .int i _ => some (.int i)
  | .str x _ => some (.str x)
  | .bytes b _ => some (.byt b)
  | .float b _ => some (.flt b)
  | .ref a => some (.ref a)
  | .type n => some (.ty n)
  | _ => none
theorem RelV.abs {x : V} {u : Value} (r : RelV x u) : absV u = some x := by
  cases x with
  | non => cases r; rfl
  | bl _ => cases r; rfl
  | int _ => obtain ⟨t, rfl⟩ := r; rfl
  | str _ => obtain ⟨t, rfl⟩ := r; rfl
  | byt _ => obtain ⟨t, rfl⟩ := r; rfl
  | flt _ => obtain ⟨t, rfl⟩ := r; rfl
  | ref _ => cases r; rfl
  | ty _ => cases r; rfl
theorem RelV.inj {x y : V} {u : Value} (r : RelV x u) (q : RelV y u) : x = y := Option.some.inj (r.abs.symm.trans q.abs)
theorem Vals.inj : ∀ {xs ys : List V} {us : List Value}, Vals xs us → Vals ys us → xs = ys
  | _, _, _, .nil, .nil => rfl
  | _, _, _, .cons r t, .cons r' t' => by rw [r.inj r', Vals.inj t t']
section
variable {X : Cx} {pins : List (Addr × Obj)} {σ : St} {H : Hp} {s : Shared} {a : Addr} {xs ys : List V}
theorem SqL.of {K : PySem.W.Frag} (h : H a = some (.lst xs)) : SqL K H a xs := .inl (.inl h)
theorem SqT.of {K : PySem.W.Frag} (h : H a = some (.tup xs)) : SqT K H a xs := .inl (.inl h)
theorem Inv.list (I : Inv X pins σ H s) (h : SqL X.K H a xs) : ∃ its : List Value, Vals xs its ∧ PlainL s.heap a its.toArray ∧ xs.length ≤ sizeLine := by
  rcases h with h | ⟨o, its, n, hk, hc, hd, hs, hz, r⟩
  · obtain ⟨z, its, n, r, e⟩ := h.ok I.hok
    exact ⟨its, r, ⟨_, n, e, rfl, rfl, rfl⟩, z⟩
  · refine ⟨its.toList, r, ⟨o, n, I.kIn a o hk, hc, hd, by simpa using hs⟩, ?_⟩
    have e := r.length
    simp only [Array.length_toList] at e
    omega
theorem Inv.tuple (I : Inv X pins σ H s) (h : SqT X.K H a xs) : ∃ its : List Value, Vals xs its ∧ IsTup s.heap a its.toArray ∧ xs.length ≤ sizeLine := by
  rcases h with h | ⟨o, its, n, hk, hc, hs, hz, r⟩
  · obtain ⟨z, its, r, p⟩ := h.ok I.hok
    exact ⟨its, r, p, z⟩
  · refine ⟨its.toList, r, ⟨o, I.kIn a o hk, hc, n, by simpa using hs⟩, ?_⟩
    have e := r.length
    simp only [Array.length_toList] at e
    omega
theorem Inv.list_inj (I : Inv X pins σ H s) (h : SqL X.K H a xs) (h' : SqL X.K H a ys) : xs = ys := by
  obtain ⟨its, r, ⟨o, n, e, _, _, d⟩, _⟩ := I.list h
  obtain ⟨its', r', ⟨o', n', e', _, _, d'⟩, _⟩ := I.list h'
  rw [e] at e'; cases e'
  rw [d] at d'
  injection d' with d1 _
  have : its = its' := by simpa using congrArg Array.toList d1
  subst this
  exact r.inj r'
end

/-! ### another wish about exceptions -/
abbrev Cx.wish (X : Cx) (E : Value → Shared → Prop) : Cx := { X with xe := E }
/-- no exception leaves -/
abbrev Cx.nox (X : Cx) : Cx := X.wish fun _ _ => False
theorem Cx.Ok.wish {X : Cx} (ok : X.Ok) (E : Value → Shared → Prop) : (X.wish E).Ok :=
  ⟨ok.mod, ok.kind, ok.glob, ok.blt, ok.above, ok.inj, ok.has, ok.cab, ok.hd, ok.frames, ok.stk, ok.exf, ok.bs, ok.bsz, ok.noex, ok.exfs, ok.funs, ok.frf⟩
theorem Cx.Ok.unwish {X : Cx} {E : Value → Shared → Prop} (ok : (X.wish E).Ok) : X.Ok :=
  ⟨ok.mod, ok.kind, ok.glob, ok.blt, ok.above, ok.inj, ok.has, ok.cab, ok.hd, ok.frames, ok.stk, ok.exf, ok.bs, ok.bsz, ok.noex, ok.exfs, ok.funs, ok.frf⟩
section
variable {X : Cx} {pins : List (Addr × Obj)} {σ : St} {H : Hp} {s : Shared} {E : Value → Shared → Prop}
theorem Inv.wish (I : Inv X pins σ H s) (E : Value → Shared → Prop) : Inv (X.wish E) pins σ H s := ⟨I.ok.wish E, I.os, I.bare, I.base, I.loc, I.cell, I.free, I.freeC, I.pin, I.hok, I.len⟩
theorem Inv.unwish (I : Inv (X.wish E) pins σ H s) : Inv X pins σ H s := ⟨I.ok.unwish, I.os, I.bare, I.base, I.loc, I.cell, I.free, I.freeC, I.pin, I.hok, I.len⟩
theorem SP.unwish {D : Ends} {f : Flow} {s' : Shared} (h : SP (X.wish E) pins D f s') : SP X pins D f s' := by
  cases f with
  | next => obtain ⟨σ', H', I, q⟩ := h; exact ⟨σ', H', I.unwish, q⟩
  | brk => obtain ⟨σ', H', I, q⟩ := h; exact ⟨σ', H', I.unwish, q⟩
  | cont => obtain ⟨σ', H', I, q⟩ := h; exact ⟨σ', H', I.unwish, q⟩
  | ret u => obtain ⟨v, σ', H', I, r, q⟩ := h; exact ⟨v, σ', H', I.unwish, r, q⟩
theorem PSs.nox {st : List Stmt} {t : TS} (h : PSs X.nox st t) : PSs X st t := fun pins s σ H D I hw =>
  wpAny_mono (h pins s σ H D (I.wish _) hw) (fun _ _ q => q.unwish) fun _ _ z => False.elim z
end

/-! ### blocks and small statements -/
section
variable {X : Cx} {st : Stmt} {rest : List Stmt} {t u : TS} {e : Expr} {te : TE} {pos : Pos}
def tNext : TS := fun D σ H => D.nx σ H
def tSeq (t u : TS) : TS := fun D σ H => t { D with nx := u D } σ H
theorem pss_nil : PSs X [] tNext := fun _ _ σ H _ I h => wpAny_execs_nil ⟨σ, H, I, h⟩
theorem pss_cons (h1 : PS X st t) (h2 : PSs X rest u) : PSs X (st :: rest) (tSeq t u) := by
  intro pins s σ H D I h
  refine wpAny_execs_cons (thn (h1 pins s σ H { D with nx := u D } I h) fun f s1 q => ?_)
  cases f with
  | next =>
    obtain ⟨σ', H', I', q⟩ := q
    exact h2 pins s1 σ' H' D I' q
  | ret v => exact q
  | brk => exact q
  | cont => exact q
theorem pss_one (h1 : PS X st t) : PSs X [st] t := by
  intro pins s σ H D I h
  refine wpAny_execs_cons (thn (h1 pins s σ H D I h) fun f s1 q => ?_)
  cases f with
  | next => exact wpAny_execs_nil q
  | ret v => exact q
  | brk => exact q
  | cont => exact q
def tBreak : TS := fun D σ H => D.bk σ H
def tCont : TS := fun D σ H => D.ct σ H
/-- in a def's body nothing is shown -/
theorem Inv.quiet {pins : List (Addr × Obj)} {σ : St} {H : Hp} {s : Shared} (I : Inv X pins σ H s) : interactive X.env = false := by simp [interactive, I.ok.kind]
/-- an expression whose value is dropped -/
def tDrop (te : TE) : TS := fun D σ H => te σ H fun _ H1 => D.nx σ H1
theorem ps_expr (he : PE X e te) (hs : swapsWith e none pos.line X.env = pure false := by rfl) : PS X (.Expr e pos) (tDrop te) := by
  intro pins s σ H D I h
  exact wpAny_Expr_any (thn (he pins s σ H _ I h) fun v s1 ⟨x, H1, I1, r1, q1⟩ => ⟨σ, H1, I1, q1⟩) I.quiet hs
def tRet (te : TE) : TS := fun D σ H => te σ H D.rt
theorem ps_ret (he : PE X e te) : PS X (.Return (some e) pos) (tRet te) := by
  intro pins s σ H D I h
  exact wpAny_Return_some (thn (he pins s σ H _ I h) fun v s1 ⟨x, H1, I1, r1, q1⟩ => ⟨x, σ, H1, I1, r1, q1⟩)
def tRetN : TS := fun D _ H => D.rt .non H
def tIfS (c : TT) (t u : TS) : TS := fun D σ H => c σ H fun b H1 => if b = true then t D σ H1 else u D σ H1
theorem ps_if {c : Expr} {a b : List Stmt} {tc : TT} (hc : PT X c tc) (ha : PSs X a t) (hb : PSs X b u) : PS X (.If c a b pos) (tIfS tc t u) := by
  intro pins s σ H D I h
  refine wpAny_If (thn (hc pins s σ H _ I h) fun d s1 ⟨H1, I1, q1⟩ => ?_)
  cases d with
  | true => exact ha pins s1 σ H1 D I1 q1
  | false => exact hb pins s1 σ H1 D I1 q1
/-- code that the proof never comes to -/
def tNever : TS := fun _ _ _ => False
end

/-! ### targets -/
abbrev TG := V → St → Hp → (St → Hp → Prop) → Prop
abbrev TGs := List V → St → Hp → (St → Hp → Prop) → Prop
def PG (X : Cx) (target : Expr) (t : TG) : Prop :=
  ∀ (pins : List (Addr × Obj)) (s : Shared) (σ : St) (H : Hp) (v : V) (u : Value) (Q : St → Hp → Prop), Inv X pins σ H s → RelV v u → t v σ H Q →
    wpAny (model X.prog X.w) X.A (assign target X.env u) (fun _ s' => ∃ σ' H', Inv X pins σ' H' s' ∧ Q σ' H') X.xe s
/-- several targets, one after another -/
def PGs (X : Cx) (ts : List Expr) (t : TGs) : Prop :=
  ∀ (pins : List (Addr × Obj)) (s : Shared) (σ : St) (H : Hp) (vs : List V) (us : List Value) (Q : St → Hp → Prop), Inv X pins σ H s → Vals vs us → t vs σ H Q →
    wpAny (model X.prog X.w) X.A (assignInOrder ((assignEach ts X.env).map (·.2)) us) (fun _ s' => ∃ σ' H', Inv X pins σ' H' s' ∧ Q σ' H') X.xe s
/-- o[i] = v, by values -/
abbrev TSet := V → V → V → Hp → (Hp → Prop) → Prop
def PSet (X : Cx) (t : TSet) : Prop :=
  ∀ (pins : List (Addr × Obj)) (s : Shared) (σ : St) (H : Hp) (o i v : V) (ov iv u : Value) (Q : Hp → Prop), Inv X pins σ H s → RelV o ov → RelV i iv → RelV v u → t o i v H Q →
    wpAny (model X.prog X.w) X.A (setItem ov iv u) (fun _ s' => ∃ H', Inv X pins σ H' s' ∧ Q H') X.xe s
/-- a op= b, by values -/
abbrev TIp := V → V → Hp → VK → Prop
def PIp (X : Cx) (op : Operator) (t : TIp) : Prop :=
  ∀ (pins : List (Addr × Obj)) (s : Shared) (σ : St) (H : Hp) (x y : V) (v u : Value) (Q : VK), Inv X pins σ H s → RelV x v → RelV y u → t x y H Q →
    wpAny (model X.prog X.w) X.A (inplaceOp op v u) (EP X pins σ Q) X.xe s
section
variable {X : Cx} {pos : Pos}
def gName (i : Nat) : TG := fun v σ H Q => Q (σ.set i (some v)) H
theorem pg_name {i : Nat} {x : Str} (hN : X.N.Nodup) (hi : X.N[i]? = some x) (hx : Loc X.env.scope x) (hf : X.fn x = true ∨ X.env.scope.names.lookup x = some .local := by first | exact .inl rfl | exact .inr rfl | assumption) : PG X (.Name x pos) (gName i) := by
  intro pins s σ H v u Q I r h
  exact wpAny_assign_Name (store_ok I hN hi hx r (fun s' I' => ⟨_, H, I', h⟩) hf)
def gNil : TGs := fun vs σ H Q => vs = [] ∧ Q σ H
def gCons (t : TG) (u : TGs) : TGs := fun vs σ H Q => ∃ v r, vs = v :: r ∧ t v σ H fun σ' H' => u r σ' H' Q
/-- (a, b, ..) = a tuple of that length -/
def gTup (K : PySem.W.Frag) (n : Nat) (t : TGs) : TG := fun v σ H Q => ∃ a xs, v = .ref a ∧ SqT K H a xs ∧ xs.length = n ∧ t xs σ H Q
/-- o[i] = .. -/
def gSub (to ti : TE) (t : TSet) : TG := fun v σ H Q => to σ H fun o H1 => ti σ H1 fun i H2 => t o i v H2 fun H3 => Q σ H3
/-- target = value -/
def tAsg (te : TE) (g : TG) : TS := fun D σ H => te σ H fun x H1 => g x σ H1 D.nx
/-- name = value -/
theorem ps_set {i : Nat} {x : Str} {e : Expr} {te : TE} {pos' : Pos} (hN : X.N.Nodup) (hi : X.N[i]? = some x) (hx : Loc X.env.scope x) (he : PE X e te) (hs : swapsWith e (some (.Name x pos')) pos.line X.env = pure false := by rfl) (hf : X.fn x = true ∨ X.env.scope.names.lookup x = some .local := by first | exact .inl rfl | exact .inr rfl | assumption) :
    PS X (.Assign [.Name x pos'] e pos) (tAsg te (gName i)) := by
  intro pins s σ H D I h
  refine wpAny_Assign_Name (thn (he pins s σ H _ I h) fun v s1 ⟨y, H1, I1, r1, q1⟩ => ?_) hs
  exact store_ok I1 hN hi hx r1 (fun s2 I2 => ⟨_, H1, I2, q1⟩) hf
/-- a, b = x, y with plain local names: stored from the right; the pair itself is not tracked (the opening rows as in PyProof/Rows/TupAssign.lean:23) -/
def tPar (i j : Nat) (ta : TA) : TS := fun D σ H => ta σ H fun vs H1 => ∃ v w, vs = [v, w] ∧ D.nx ((σ.set i (some v)).set j (some w)) H1
/-- name op= e -/
def tAug (i : Nat) (te : TE) (ti : TIp) : TS := fun D σ H => ∃ x, σ[i]? = some (some x) ∧ te σ H fun y H1 => ti x y H1 fun z H2 => D.nx (σ.set i (some z)) H2
theorem ps_aug {i : Nat} {x : Str} {e : Expr} {te : TE} {op : Operator} {ti : TIp} {pos' : Pos} (hN : X.N.Nodup) (hi : X.N[i]? = some x) (hx : Loc X.env.scope x) (he : PE X e te) (ho : PIp X op ti) (hf : X.fn x = true ∨ X.env.scope.names.lookup x = some .local := by first | exact .inl rfl | exact .inr rfl | assumption) :
    PS X (.AugAssign (.Name x pos') op e pos) (tAug i te ti) := by
  intro pins s σ H D I h
  obtain ⟨v, e1, h⟩ := h
  obtain ⟨m, hn, hl⟩ := I.loc
  have vis : Vis X.env.scope x := by rcases hx with k | k; exact .inl k; exact .inr (.inl k)
  obtain ⟨u, r, l⟩ := hl i x v hi e1 vis
  refine wpAny_AugAssign_Name ?_
  have go : wpAny (model X.prog X.w) X.A (eval e X.env) (fun w s₂ => wpAny (model X.prog X.w) X.A (inplaceOp op u w) (fun r s₃ => wpAny (model X.prog X.w) X.A (storeName X.env x r) (fun _ => SP X pins D .next) X.xe s₃) X.xe s₂) X.xe s := by
    refine thn (he pins s σ H _ I h) fun w s1 ⟨y, H1, I1, r1, q1⟩ => ?_
    refine thn (ho pins s1 σ H1 v y u w _ I1 r r1 q1) fun z s2 ⟨zv, H2, I2, r2, q2⟩ => ?_
    exact store_ok I2 hN hi hx r2 (fun s3 I3 => ⟨_, H2, I3, q2⟩) hf
  rcases l with ⟨hk, hm⟩ | ⟨hk, c, hc, hcell⟩
  · exact wpAny_loadName_local I.ok.kind hk hn hm go
  · rcases hk with hk | hk
    · exact wpAny_loadName_cell I.ok.kind hk hc hcell go
    · rcases hx with k | k
      · have : X.env.scope.names.lookup x = some .free := hk
        rw [k] at this; cases this
      · have : X.env.scope.names.lookup x = some .free := hk
        rw [k] at this; cases this
/-- o[i] op= e -/
def tAugS (to ti te : TE) (tget : V → V → Hp → VK → Prop) (tip : TIp) (tset : TSet) : TS := fun D σ H => to σ H fun o H1 => ti σ H1 fun i H2 => tget o i H2 fun x H3 => te σ H3 fun y H4 => tip x y H4 fun z H5 => tset o i z H5 fun H6 => D.nx σ H6
/-- o[i], by values -/
def PGet (X : Cx) (t : V → V → Hp → VK → Prop) : Prop :=
  ∀ (pins : List (Addr × Obj)) (s : Shared) (σ : St) (H : Hp) (o i : V) (ov iv : Value) (Q : VK), Inv X pins σ H s → RelV o ov → RelV i iv → t o i H Q →
    wpAny (model X.prog X.w) X.A (getItem ov iv) (EP X pins σ Q) X.xe s
/-- ints -/
def ipI (f : Int → Int → Int) : TIp := fun x y H Q => ∃ i j, x = .int i ∧ y = .int j ∧ Q (.int (f i j)) H
theorem ip_add : PIp X .Add (ipI fun i j => i + j) := by
  intro pins s σ H x y v u Q I r1 r2 h
  obtain ⟨i, j, e1, e2, q⟩ := h
  subst e1; subst e2
  obtain ⟨t, rfl⟩ := r1
  obtain ⟨t', rfl⟩ := r2
  exact iadd_int ⟨.int _, H, I.tok _, ⟨_, rfl⟩, q⟩
end

/-! ### while -/
section
variable {X : Cx} {pos : Pos}
/-- the invariant W with its measure -/
def tWhile (c : TT) (tb : TS) : TS := fun D σ H => ∃ W : Nat → St → Hp → Prop, (∃ m, W m σ H) ∧ ∀ m σ H, W m σ H →
  c σ H fun b H1 => if b = true then ∃ N : St → Hp → Prop, (∀ σ' H', N σ' H' → ∃ m', m' < m ∧ W m' σ' H') ∧ tb { D with nx := N, ct := N, bk := D.nx } σ H1 else D.nx σ H1
theorem ps_while {c : Expr} {body : List Stmt} {tc : TT} {tb : TS} (hp : PassesOwn (model X.prog X.w) X.A X.env X.xe) (hc : PT X c tc) (hb : PSs X body tb) : PS X (.While c body [] pos) (tWhile tc tb) := by
  intro pins s σ H D I h
  obtain ⟨W, ⟨m0, w0⟩, turn⟩ := h
  refine wpAny_While (codeAny_whileLoop (fun n s' => ∃ σ' H', Inv X pins σ' H' s' ∧ W n σ' H') ?_ m0 ⟨σ, H, I, w0⟩)
  rintro n s1 ⟨σ1, H1, I1, w1⟩
  refine wpAny_passesOwn hp (thn (hc pins s1 σ1 H1 _ I1 (turn n σ1 H1 w1)) fun b s2 ⟨H2, I2, q2⟩ => ?_)
  cases b with
  | true =>
    obtain ⟨N, hN, q2⟩ := q2
    rw [if_pos rfl]
    refine wpAny_passesOwn hp (thn (hb pins s2 σ1 H2 _ I2 q2) fun f s3 q3 => ?_)
    cases f with
    | next =>
      obtain ⟨σ3, H3, I3, n3⟩ := q3
      obtain ⟨m', hm, w3⟩ := hN σ3 H3 n3
      exact ⟨m', hm, σ3, H3, I3, w3⟩
    | cont =>
      obtain ⟨σ3, H3, I3, n3⟩ := q3
      obtain ⟨m', hm, w3⟩ := hN σ3 H3 n3
      exact ⟨m', hm, σ3, H3, I3, w3⟩
    | brk => exact q3
    | ret v => exact q3
  | false =>
    rw [if_neg Bool.false_ne_true]
    exact wpAny_execs_nil ⟨σ1, H2, I2, q2⟩
end

/-! ### what a loop or a comprehension walks -/
/-- at turn i: it yields x (the heap may grow), or it stops -/
structure It where
  go : Nat → Hp → Prop
  yld : Nat → Hp → V → Hp → Prop
  stop : Nat → Hp → Prop
/-- the iterator's own objects may turn: they are not the frame's, not pinned, younger than the entry (or a comprehension's own) -/
def FpOk (X : Cx) (pins : List (Addr × Obj)) (H : Hp) (b : Addr) : Prop :=
  H b = none ∧ b ≠ X.env.locals ∧ b ∉ X.fs ∧ (b ∈ X.ex ∨ X.s₀.heap.objs.size ≤ b) ∧ (∀ x c, X.env.cells.lookup x = some c → c ≠ b) ∧ ∀ p ∈ X.pn ++ pins, p.1 ≠ b
theorem Inv.fpOk {X : Cx} {pins : List (Addr × Obj)} {σ : St} {H H' : Hp} {s : Shared} {b : Addr} (I : Inv X pins σ H s) (hb : s.heap.objs.size ≤ b) (hn : H' b = none) : FpOk X pins H' b := by
  refine ⟨hn, Nat.ne_of_gt (Nat.lt_of_lt_of_le I.lt hb), I.nofs hb, .inr (Nat.le_trans I.sz hb), fun x c e z => ?_, fun p hp z => ?_⟩
  · obtain ⟨v, q⟩ := I.cell x c e
    exact absurd (Nat.lt_of_lt_of_le q.lt (by rw [z]; exact hb)) (Nat.lt_irrefl _)
  · exact absurd (Nat.lt_of_lt_of_le (Heap.lt_size (I.pin p hp).1) (by rw [z]; exact hb)) (Nat.lt_irrefl _)
structure Turn (P : Program) (w : World) (K : PySem.W.Frag) (tg : Expr) (J : It) (fp : List Addr) (it : Addr) (tn : Nat → Heap → Prop) : Prop where
  mem : it ∈ fp
  obj : ∀ i h, tn i h → ∀ b ∈ fp, ∃ o, h.get? b = some o ∧ ∀ v, o.data ≠ .cell v
  keep : ∀ i h h', tn i h → (∀ b ∈ fp, ∀ o, h.get? b = some o → h'.get? b = some o) → tn i h'
  item : ∀ (X : Cx), X.prog = P → X.w = w → X.K = K → X.calm = true → ∀ (i : Nat) (pins : List (Addr × Obj)) (s : Shared) (σ : St) (H : Hp) (E : Value → Shared → Prop), Inv X pins σ H s → (∀ b ∈ fp, FpOk X pins H b) → tn i s.heap → J.go i H →
    wpAny (model P w) X.A (pyNext (.ref it)) (fun r s1 => ∃ u, r = some u ∧
      wpAny (model P w) X.A (letOwnedTupleGo tg (.ref it) u) (fun _ s2 => ∃ x H', Inv X pins σ H' s2 ∧ RelV x u ∧ J.yld i H x H' ∧ tn (i + 1) s2.heap ∧ ∀ b ∈ fp, H' b = none) E s1) E s
  done : ∀ (X : Cx), X.prog = P → X.w = w → X.K = K → X.calm = true → ∀ (i : Nat) (pins : List (Addr × Obj)) (s : Shared) (σ : St) (H : Hp) (E : Value → Shared → Prop), Inv X pins σ H s → (∀ b ∈ fp, FpOk X pins H b) → tn i s.heap → J.stop i H →
    wpAny (model P w) X.A (pyNext (.ref it)) (fun r s1 => r = none ∧ Inv X pins σ H s1) E s
  self : ∀ (A : Around) (i : Nat) (s : Shared) (Q : Value → Shared → Prop) (E : Value → Shared → Prop), tn i s.heap → Q (.ref it) s → wpAny (model P w) A (pyIter (.ref it)) Q E s
abbrev TI := St → Hp → (It → Hp → Prop) → Prop
/-- an iterator has come -/
def PIE (X : Cx) (pins : List (Addr × Obj)) (σ : St) (tg : Expr) (R : It → Hp → Prop) (itv : Value) (s2 : Shared) : Prop :=
  ∃ (it : Addr) (fp : List Addr) (tn : Nat → Heap → Prop) (J : It) (H' : Hp), itv = .ref it ∧ Inv X pins σ H' s2 ∧ Turn X.prog X.w X.K tg J fp it tn ∧ tn 0 s2.heap ∧ (∀ b ∈ fp, FpOk X pins H' b) ∧ R J H'
def PI (X : Cx) (tg iter : Expr) (wi : TI) : Prop :=
  ∀ (pins : List (Addr × Obj)) (s : Shared) (σ : St) (H : Hp) (R : It → Hp → Prop), Inv X pins σ H s → wi σ H R →
    wpAny (model X.prog X.w) X.A (eval iter X.env) (fun v s1 => wpAny (model X.prog X.w) X.A (pyIter v) (PIE X pins σ tg R) X.xe s1) X.xe s

/-- the step ahead of the store is nothing for an iterator that keeps no tuple -/
theorem go_of {M : Model} {A : Around} {E : Value → Shared → Prop} {s : Shared} {tg : Expr} {it : Addr} {u : Value} {o : Obj} {n : String} {vs : Array Value} {Q : Unit → Shared → Prop} (ho : s.heap.get? it = some o) (hc : o.cls = .type n) (hd : o.data = .fields vs)
    (hn : ["enumerate", "zip", "dict_itemiterator", "dict_reverseitemiterator", "odict_iterator", "itertools.zip_longest", "itertools.pairwise"].contains n = false) (hQ : Q () s) : wpAny M A (letOwnedTupleGo tg (.ref it) u) Q E s := by
  unfold letOwnedTupleGo
  cases tg <;> first
    | exact wpAny_pure hQ
    | (cases u <;> first
        | exact wpAny_pure hQ
        | (refine wpAny_bind (wpAny_load ho ?_)
           rw [hc, hd]
           show wpAny M A (if (["enumerate", "zip", "dict_itemiterator", "dict_reverseitemiterator", "odict_iterator", "itertools.zip_longest", "itertools.pairwise"].contains n && vs[0]? == some (rawInt _)) = true then _ else _) Q E s
           rw [if_neg (by intro h; rw [hn, Bool.false_and] at h; cases h)]
           exact wpAny_pure hQ))

/-- the list at a, as it stands at each turn (a loop may append to it) -/
def Itl (K : PySem.W.Frag) (a : Addr) : It :=
  ⟨fun i H => ∃ xs x, SqL K H a xs ∧ xs[i]? = some x, fun i H x H' => H' = H ∧ ∀ xs, SqL K H a xs → xs[i]? = some x, fun i H => ∃ xs, SqL K H a xs ∧ xs.length ≤ i⟩
def Itt (K : PySem.W.Frag) (a : Addr) : It :=
  ⟨fun i H => ∃ xs x, SqT K H a xs ∧ xs[i]? = some x, fun i H x H' => H' = H ∧ ∀ xs, SqT K H a xs → xs[i]? = some x, fun i H => ∃ xs, SqT K H a xs ∧ xs.length ≤ i⟩
/-- lo, lo + 1, .. (n of them) -/
def Itr (lo : Int) (n : Nat) : It := ⟨fun i _ => i < n, fun i H x H' => H' = H ∧ x = .int (lo + i), fun i _ => n ≤ i⟩
theorem turn_list {P : Program} {w : World} {K : PySem.W.Frag} {tg : Expr} (a it : Addr) : Turn P w K tg (Itl K a) [it] it (fun i h => h.IsListIter it a i) where
  mem := by simp
  obj := fun i h st b hb => by
    have e : b = it := by simpa using hb
    subst e
    obtain ⟨o, e, c, d⟩ := st
    exact ⟨o, e, fun v z => by rw [d] at z; cases z⟩
  keep := fun i h h' st k => st.at fun o e => k it (by simp) o e
  item := by
    intro X hP hw hK hc i pins s σ H E I hf st hg
    subst hP hw hK
    obtain ⟨xs, x, hq, hx⟩ := hg
    obtain ⟨its, rv, p, hz⟩ := I.list hq
    obtain ⟨u, hu, ru⟩ := rv.get hx
    obtain ⟨f0, f1, f2, f3, f4, f5⟩ := hf it (by simp)
    refine wpAny_pyNext_list_item st p.isList (x := u) (by simpa using hu) fun h' st' sb => ?_
    have I1 : Inv X pins σ H { s with heap := h' } := I.turned (t' := s.toks) (fun b o hb e => (sb.2 b hb).trans e) f0 f1 f3 f4 f5
    obtain ⟨o, e, c, d⟩ := id st'
    exact ⟨u, rfl, go_of (s := { s with heap := h' }) e c d (by decide) ⟨x, H, I1, ru, ⟨rfl, fun ys hy => by rw [I.list_inj hy hq]; exact hx⟩, st', fun b hb => (hf b hb).1⟩⟩
  done := by
    intro X hP hw hK hc i pins s σ H E I hf st hg
    subst hP hw hK
    obtain ⟨xs, hq, hx⟩ := hg
    obtain ⟨its, rv, p, hz⟩ := I.list hq
    obtain ⟨f0, f1, f2, f3, f4, f5⟩ := hf it (by simp)
    have hl := rv.length
    exact wpAny_pyNext_list_end (I.ok.hd hc) st p.isList (by simp; omega) fun h' eb => ⟨rfl, I.turned (t' := s.toks) (fun b o hb e => eb b o hb e) f0 f1 f3 f4 f5⟩
  self := fun _ _ _ _ _ st h => wpAny_pyIter_listiter st h
theorem turn_range {P : Program} {w : World} {K : PySem.W.Frag} {tg : Expr} (it : Addr) (lo : Int) (n : Nat) : Turn P w K tg (Itr lo n) [it] it (fun i h => IsRangeIter h it (lo + (i : Nat) * 1) ((n : Int) - (i : Nat)) 1) where
  mem := by simp
  obj := fun i h st b hb => by
    have e : b = it := by simpa using hb
    subst e
    exact ⟨_, st, fun v z => by
      have z' : Data.fields _ = Data.cell v := z
      cases z'⟩
  keep := fun i h h' st k => k it (by simp) _ st
  item := by
    intro X hP hw hK hc i pins s σ H E I hf st hg
    subst hP hw hK
    obtain ⟨f0, f1, f2, f3, f4, f5⟩ := hf it (by simp)
    have W := Walks.range (prog := X.prog) (w := X.w) (I.ok.hd hc) it lo 1 n
    refine W.item i s _ _ hg st fun v h' tk hv st' kk => ?_
    obtain ⟨t, rfl⟩ := hv
    have I1 : Inv X pins σ H { s with heap := h', toks := tk } := I.turned (fun b o hb e => kk b o (by simpa using hb) e) f0 f1 f3 f4 f5
    refine ⟨_, rfl, go_of (s := { s with heap := h', toks := tk }) (n := "range_iterator") st' rfl rfl (by decide) ⟨.int (lo + i), H, I1, ⟨t, ?_⟩, ⟨rfl, rfl⟩, st', fun b hb => (hf b hb).1⟩⟩
    rw [Int.mul_one]
  done := by
    intro X hP hw hK hc i pins s σ H E I hf st hg
    subst hP hw hK
    obtain ⟨f0, f1, f2, f3, f4, f5⟩ := hf it (by simp)
    exact wpAny_pyNext_range_end (I.ok.hd hc) st (by have : n ≤ i := hg; omega) fun h' eb => ⟨rfl, I.turned (t' := s.toks) (fun b o hb e => eb b o hb e) f0 f1 f3 f4 f5⟩
  self := fun _ _ _ _ _ st h => wpAny_pyIter_rangeiter st h
end L2

namespace L2
open PySem PySem.Spec PyProof.Rows
section
variable {X : Cx} {tg : Expr}
def iList (K : PySem.W.Frag) (tl : TE) : TI := fun σ H R => tl σ H fun x H1 => ∃ a, x = .ref a ∧ (∃ xs, SqL K H1 a xs) ∧ R (Itl K a) H1
def iTup (K : PySem.W.Frag) (tl : TE) : TI := fun σ H R => tl σ H fun x H1 => ∃ a, x = .ref a ∧ (∃ xs, SqT K H1 a xs) ∧ R (Itt K a) H1
theorem pi_list {l : Expr} {tl : TE} (hl : PE X l tl) : PI X tg l (iList X.K tl) := by
  intro pins s σ H R I h
  refine thn (hl pins s σ H _ I h) fun v s1 ⟨x, H1, I1, r1, q1⟩ => ?_
  obtain ⟨a, e, ⟨xs, hq⟩, q⟩ := q1
  subst e
  cases r1
  obtain ⟨its, rv, p, hz⟩ := I1.list hq
  refine wpAny_pyIter_list p.isList ?_
  refine ⟨s1.heap.objs.size, [s1.heap.objs.size], _, _, H1, rfl, I1.kept (t' := s1.toks) fun b o e => Heap.get?_push_of_some _ e, turn_list a _, ⟨_, Heap.get?_push_size _ rfl, rfl, rfl⟩, fun b hb => ?_, q⟩
  have e : b = s1.heap.objs.size := by simpa using hb
  subst e
  exact I1.fpOk (Nat.le_refl _) (I1.hok.fresh (Nat.le_refl _))
/-- a range object just made, walked -/
theorem range_it {pins : List (Addr × Obj)} {σ : St} {H : Hp} {s : Shared} {R : It → Hp → Prop} {E : Value → Shared → Prop} {lo hi : Int} {t u v : Tok} {tk : Nat} (I : Inv X pins σ H s) (h1 : -(2 ^ 62) ≤ lo) (h2 : lo < 2 ^ 62) (h3 : -(2 ^ 62) ≤ hi) (h4 : hi < 2 ^ 62)
    (q : R (Itr lo (hi - lo).toNat) H) : wpAny (model X.prog X.w) X.A (pyIter (.ref s.heap.objs.size)) (PIE X pins σ tg R) E { s with heap := s.heap.push { cls := .type "range", data := .fields #[.int lo t, .int hi u, .int 1 v] }, toks := tk } := by
  refine wpAny_pyIter_range (IsRange.new ..) (small_one h1 h2 h3 h4) ?_
  have I1 : Inv X pins σ H { s with heap := s.heap.push { cls := .type "range", data := .fields #[.int lo t, .int hi u, .int 1 v] }, toks := tk } := I.kept fun b o e => Heap.get?_push_of_some _ e
  refine ⟨(s.heap.push { cls := .type "range", data := .fields #[.int lo t, .int hi u, .int 1 v] }).objs.size, [(s.heap.push { cls := .type "range", data := .fields #[.int lo t, .int hi u, .int 1 v] }).objs.size], _, _, H, rfl,
    I1.kept (t' := tk) fun b o e => Heap.get?_push_of_some _ e, turn_range _ lo (hi - lo).toNat, ?_, fun b hb => ?_, q⟩
  · have e1 : lo + ((0 : Nat) : Int) * 1 = lo := by simp
    have e2 : (((hi - lo).toNat : Nat) : Int) - ((0 : Nat) : Int) = Builtin.Range.rangeSize lo hi 1 := by rw [rangeSize_one]; split <;> omega
    show IsRangeIter _ _ (lo + ((0 : Nat) : Int) * 1) ((((hi - lo).toNat : Nat) : Int) - ((0 : Nat) : Int)) 1
    rw [e1, e2]
    exact Heap.get?_push_size _ rfl
  · have e : b = (s.heap.push { cls := .type "range", data := .fields #[.int lo t, .int hi u, .int 1 v] }).objs.size := by simpa using hb
    subst e
    exact I1.fpOk (Nat.le_refl _) (I1.hok.fresh (Nat.le_refl _))
def iRng1 (ta : TA) : TI := fun σ H R => ta σ H fun vs H1 => ∃ j : Int, vs = [.int j] ∧ -(2 ^ 62) ≤ j ∧ j < 2 ^ 62 ∧ R (Itr 0 j.toNat) H1
def iRng2 (ta : TA) : TI := fun σ H R => ta σ H fun vs H1 => ∃ i j : Int, vs = [.int i, .int j] ∧ (-(2 ^ 62) ≤ i ∧ i < 2 ^ 62 ∧ -(2 ^ 62) ≤ j ∧ j < 2 ^ 62) ∧ R (Itr i (j - i).toNat) H1
theorem pi_range1 {a : Expr} {ta : TA} {p pos : Pos} (hg : Gl X "range") (hm : X.mg "range" = none) (ha : PA X [a] ta) (hs : starEach [a] X.env = [(false, eval a X.env)] := by rfl) : PI X tg (.Call (.Name "range" p) [a] [] pos) (iRng1 ta) := by
  intro pins s σ H R I h
  refine Call_ (ld_blt I hg hm boot_range (PyProof.Rows.callWith_type1 (thn (ha pos pins s σ H _ I h) fun us s1 ⟨vs, H1, I1, r1, q1⟩ => ?_) hs rfl))
  obtain ⟨j, e, q1, q2, q⟩ := q1
  subst e
  cases r1 with
  | cons r rr =>
    cases rr
    obtain ⟨t, rfl⟩ := r
    exact call_range_1 (range_it I1 (by omega) (by omega) q1 q2 (by simpa using q))
/-! ### for -/
/-- W: the invariant by the turn and a measure; N: what the body is to reach -/
def tFor (wi : TI) (g : TG) (tb : TS) : TS := fun D σ H => wi σ H fun J H1 => ∃ W : Nat → Nat → St → Hp → Prop, (∃ m, W 0 m σ H1) ∧ ∀ i m σ H, W i m σ H →
  (J.stop i H ∧ D.nx σ H) ∨ (J.go i H ∧ ∃ N : St → Hp → Prop, (∀ σ' H', N σ' H' → ∃ m', m' < m ∧ W (i + 1) m' σ' H') ∧ ∀ x H', J.yld i H x H' → g x σ H' fun σ2 H2 => tb { D with nx := N, ct := N, bk := D.nx } σ2 H2)
/-- the records at fp as they stand -/
def pinsAt (fp : List Addr) (h : Heap) : List (Addr × Obj) := fp.filterMap fun b => (h.get? b).map fun o => (b, o)
theorem mem_pinsAt {fp : List Addr} {h : Heap} {b : Addr} {o : Obj} (hb : b ∈ fp) (e : h.get? b = some o) : (b, o) ∈ pinsAt fp h := List.mem_filterMap.mpr ⟨b, hb, by rw [e]; rfl⟩
theorem of_pinsAt {fp : List Addr} {h : Heap} {p : Addr × Obj} (hp : p ∈ pinsAt fp h) : p.1 ∈ fp ∧ h.get? p.1 = some p.2 := by
  obtain ⟨b, hb, e⟩ := List.mem_filterMap.mp hp
  cases q : h.get? b with
  | none => rw [q] at e; cases e
  | some o =>
    rw [q] at e
    have e' : (b, o) = p := Option.some.inj e
    subst e'
    exact ⟨hb, q⟩
theorem Inv.pinned {pins : List (Addr × Obj)} {σ : St} {H : Hp} {s : Shared} {fp : List Addr} (I : Inv X pins σ H s) (hf : ∀ b ∈ fp, FpOk X pins H b) (ho : ∀ b ∈ fp, ∃ o, s.heap.get? b = some o ∧ ∀ v, o.data ≠ .cell v) : Inv X (pins ++ pinsAt fp s.heap) σ H s :=
  I.pins_of fun p hp => (List.mem_append.mp hp).elim (fun z => I.pin p (List.mem_append_right _ z)) fun z => by
    obtain ⟨hb, e⟩ := of_pinsAt z
    obtain ⟨f0, f1, f2, _⟩ := hf p.1 hb
    obtain ⟨o, e', d⟩ := ho p.1 hb
    rw [e] at e'; cases e'
    exact ⟨e, f0, f1, f2, d⟩
theorem Inv.unpinned {pins pl : List (Addr × Obj)} {σ : St} {H : Hp} {s : Shared} (I : Inv X (pins ++ pl) σ H s) : Inv X pins σ H s := I.pins_of fun p hp => I.pin p (List.mem_append_right _ (List.mem_append_left _ hp))
theorem ps_for {iter : Expr} {body : List Stmt} {wi : TI} {g : TG} {tb : TS} {pos : Pos} (hp : PassesOwn (model X.prog X.w) X.A X.env X.xe) (hc : X.calm = true) (hi : PI X tg iter wi) (hg : PG X tg g) (hb : PSs X body tb)
    (hs : ∀ x, foldedSetIterable iter X.env x = pure x := by intro _; rfl) : PS X (.For tg iter body [] pos) (tFor wi g tb) := by
  intro pins s σ H D I h
  refine wpAny_For (thn (hi pins s σ H _ I h) fun v s1 h1 => thn h1 fun itv s2 h2 => ?_) hs
  obtain ⟨it, fp, tn, J, H2, e, I2, T, st2, f2, W, ⟨m0, w0⟩, turn⟩ := h2
  subst e
  -- what stays true of the iterator's objects through the loop
  have stat : ∀ {H' : Hp}, (∀ b ∈ fp, H' b = none) → ∀ b ∈ fp, FpOk X pins H' b := fun hn b hb => ⟨hn b hb, (f2 b hb).2⟩
  refine codeAny_forLoop_any (fun n s' => ∃ i σ' H', Inv X pins σ' H' s' ∧ tn i s'.heap ∧ (∀ b ∈ fp, H' b = none) ∧ W i n σ' H') ?_ m0 ⟨0, σ, H2, I2, st2, fun b hb => (f2 b hb).1, w0⟩
  rintro n s3 ⟨i, σ3, H3, I3, st3, fr3, w3⟩
  rcases turn i n σ3 H3 w3 with ⟨stop, qn⟩ | ⟨go, N, hN, step⟩
  · refine wpAny_passesOwn hp (thn (T.done X rfl rfl rfl hc i pins s3 σ3 H3 X.xe I3 (stat fr3) st3 stop) fun r s4 ⟨hr, I4⟩ => ?_)
    subst hr
    exact wpAny_execs_nil ⟨σ3, H3, I4, qn⟩
  · refine wpAny_passesOwn hp (thn (T.item X rfl rfl rfl hc i pins s3 σ3 H3 X.xe I3 (stat fr3) st3 go) fun r s4 ⟨u, hr, h4⟩ => ?_)
    subst hr
    refine wpAny_passesOwn hp (thn h4 fun _ s5 ⟨x, H5, I5, r5, y5, st5, fr5⟩ => ?_)
    have I5' := I5.pinned (stat fr5) (T.obj _ _ st5)
    refine wpAny_passesOwn hp (thn (hg _ s5 σ3 H5 x u _ I5' r5 (step x H5 y5)) fun _ s6 ⟨σ6, H6, I6, q6⟩ => ?_)
    refine wpAny_passesOwn hp (thn (hb _ s6 σ6 H6 _ I6 q6) fun f s7 q7 => ?_)
    have again : ∀ {σ7 : St} {H7 : Hp}, Inv X (pins ++ pinsAt fp s5.heap) σ7 H7 s7 → N σ7 H7 → ∃ m, m < n ∧ ∃ i σ' H', Inv X pins σ' H' s7 ∧ tn i s7.heap ∧ (∀ b ∈ fp, H' b = none) ∧ W i m σ' H' := fun {σ7 H7} I7 n7 => by
      obtain ⟨m', hm, w7⟩ := hN σ7 H7 n7
      refine ⟨m', hm, i + 1, σ7, H7, I7.unpinned, T.keep _ _ _ st5 fun b hb o e => (I7.pin (b, o) (List.mem_append_right _ (List.mem_append_right _ (mem_pinsAt hb e)))).1, fun b hb => ?_, w7⟩
      obtain ⟨o, e, d⟩ := T.obj _ _ st5 b hb
      exact (I7.pin (b, o) (List.mem_append_right _ (List.mem_append_right _ (mem_pinsAt hb e)))).2.1
    cases f with
    | next => obtain ⟨σ7, H7, I7, n7⟩ := q7; exact again I7 n7
    | cont => obtain ⟨σ7, H7, I7, n7⟩ := q7; exact again I7 n7
    | brk => obtain ⟨σ7, H7, I7, q7⟩ := q7; exact ⟨σ7, H7, I7.unpinned, q7⟩
    | ret v => obtain ⟨x7, σ7, H7, I7, r7, q7⟩ := q7; exact ⟨x7, σ7, H7, I7.unpinned, r7, q7⟩
end

/-! ### the forms one uses -/
/-- over a list that the body leaves as it is -/
theorem for_list {K : PySem.W.Frag} {a : Addr} {xs : List V} {g : TG} {tb : TS} {D : Ends} {σ : St} {H : Hp} (Pv : Nat → St → Hp → Prop) (h0 : Pv 0 σ H) (hl : ∀ i σ H, i ≤ xs.length → Pv i σ H → SqL K H a xs)
    (hs : ∀ i x σ H, xs[i]? = some x → Pv i σ H → g x σ H fun σ2 H2 => tb { D with nx := Pv (i + 1), ct := Pv (i + 1), bk := D.nx } σ2 H2) (hd : ∀ σ H, Pv xs.length σ H → D.nx σ H) :
    ∃ W : Nat → Nat → St → Hp → Prop, (∃ m, W 0 m σ H) ∧ ∀ i m σ H, W i m σ H →
      ((Itl K a).stop i H ∧ D.nx σ H) ∨ ((Itl K a).go i H ∧ ∃ N : St → Hp → Prop, (∀ σ' H', N σ' H' → ∃ m', m' < m ∧ W (i + 1) m' σ' H') ∧ ∀ x H', (Itl K a).yld i H x H' → g x σ H' fun σ2 H2 => tb { D with nx := N, ct := N, bk := D.nx } σ2 H2) := by
  refine ⟨fun i m σ H => m = xs.length - i ∧ i ≤ xs.length ∧ Pv i σ H, ⟨xs.length, by simp, Nat.zero_le _, h0⟩, ?_⟩
  rintro i m σ H ⟨rfl, hi, p⟩
  have q := hl i σ H hi p
  by_cases hlt : i < xs.length
  · refine .inr ⟨⟨xs, xs[i], q, by simp [hlt]⟩, Pv (i + 1), fun σ' H' p' => ⟨xs.length - (i + 1), by omega, rfl, hlt, p'⟩, fun x H' y => ?_⟩
    obtain ⟨e, y⟩ := y
    subst e
    exact hs i x σ _ (y xs q) p
  · have e : i = xs.length := by omega
    subst e
    exact .inl ⟨⟨xs, q, Nat.le_refl _⟩, hd σ H p⟩
theorem for_range {lo : Int} {n : Nat} {g : TG} {tb : TS} {D : Ends} {σ : St} {H : Hp} (Pv : Nat → St → Hp → Prop) (h0 : Pv 0 σ H)
    (hs : ∀ i σ H, i < n → Pv i σ H → g (.int (lo + i)) σ H fun σ2 H2 => tb { D with nx := Pv (i + 1), ct := Pv (i + 1), bk := D.nx } σ2 H2) (hd : ∀ σ H, Pv n σ H → D.nx σ H) :
    ∃ W : Nat → Nat → St → Hp → Prop, (∃ m, W 0 m σ H) ∧ ∀ i m σ H, W i m σ H →
      ((Itr lo n).stop i H ∧ D.nx σ H) ∨ ((Itr lo n).go i H ∧ ∃ N : St → Hp → Prop, (∀ σ' H', N σ' H' → ∃ m', m' < m ∧ W (i + 1) m' σ' H') ∧ ∀ x H', (Itr lo n).yld i H x H' → g x σ H' fun σ2 H2 => tb { D with nx := N, ct := N, bk := D.nx } σ2 H2) := by
  refine ⟨fun i m σ H => m = n - i ∧ i ≤ n ∧ Pv i σ H, ⟨n, by simp, Nat.zero_le _, h0⟩, ?_⟩
  rintro i m σ H ⟨rfl, hi, p⟩
  by_cases hlt : i < n
  · refine .inr ⟨hlt, Pv (i + 1), fun σ' H' p' => ⟨n - (i + 1), by omega, rfl, hlt, p'⟩, fun x H' y => ?_⟩
    obtain ⟨e, y⟩ := y
    subst e y
    exact hs i σ _ hlt p
  · have e : i = n := by omega
    subst e
    exact .inl ⟨Nat.le_refl _, hd σ H p⟩
/-- while, by a word and a measure of the state -/
theorem while_by {c : TT} {tb : TS} {D : Ends} {σ : St} {H : Hp} (Pv : St → Hp → Prop) (μ : St → Hp → Nat) (h0 : Pv σ H)
    (hs : ∀ σ H, Pv σ H → c σ H fun b H1 => if b = true then tb { D with nx := fun σ' H' => Pv σ' H' ∧ μ σ' H' < μ σ H, ct := fun σ' H' => Pv σ' H' ∧ μ σ' H' < μ σ H, bk := D.nx } σ H1 else D.nx σ H1)
    (mono : ∀ σ H Q Q', (∀ b H1, Q b H1 → Q' b H1) → c σ H Q → c σ H Q') : tWhile c tb D σ H := by
  refine ⟨fun m σ H => m = μ σ H ∧ Pv σ H, ⟨_, rfl, h0⟩, ?_⟩
  rintro m σ H ⟨rfl, p⟩
  refine mono σ H _ _ (fun b H1 q => ?_) (hs σ H p)
  cases b with
  | true => exact ⟨_, fun σ' H' ⟨p', l⟩ => ⟨_, l, rfl, p'⟩, q⟩
  | false => exact q
end L2

namespace L2
open PySem PySem.Spec PyProof.Rows

abbrev R2 := V → V → Hp → VK → Prop
/-- a two-place operation on values: f is binaryOp op, inplaceOp op or compareOp op -/
def OpR (X : Cx) (f : Value → Value → Sem Value) (r : R2) : Prop :=
  ∀ (pins : List (Addr × Obj)) (s : Shared) (σ : St) (H : Hp) (x y : V) (v u : Value) (Q : VK), Inv X pins σ H s → RelV x v → RelV y u → r x y H Q →
    wpAny (model X.prog X.w) X.A (f v u) (EP X pins σ Q) X.xe s
/-- a one-place operation -/
def UnR (X : Cx) (f : Value → Sem Value) (r : V → Hp → VK → Prop) : Prop :=
  ∀ (pins : List (Addr × Obj)) (s : Shared) (σ : St) (H : Hp) (x : V) (v : Value) (Q : VK), Inv X pins σ H s → RelV x v → r x H Q →
    wpAny (model X.prog X.w) X.A (f v) (EP X pins σ Q) X.xe s
/-- a call of a value that is known (a builtin, a type) with values -/
def CallR (X : Cx) (f : Value) (r : List V → Hp → VK → Prop) : Prop :=
  ∀ (pins : List (Addr × Obj)) (s : Shared) (σ : St) (H : Hp) (xs : List V) (us : List Value) (Q : VK), Inv X pins σ H s → Vals xs us → r xs H Q →
    wpAny (model X.prog X.w) X.A (call f us) (EP X pins σ Q) X.xe s
/-- a value's truth -/
def TruR (X : Cx) (r : V → Hp → (Bool → Hp → Prop) → Prop) : Prop :=
  ∀ (pins : List (Addr × Obj)) (s : Shared) (σ : St) (H : Hp) (x : V) (v : Value) (Q : Bool → Hp → Prop), Inv X pins σ H s → RelV x v → r x H Q →
    wpAny (model X.prog X.w) X.A (truthy v) (TP X pins σ Q) X.xe s

def tOp (r : R2) (ta tb : TE) : TE := fun σ H Q => ta σ H fun x H1 => tb σ H1 fun y H2 => r x y H2 Q
def tUn (r : V → Hp → VK → Prop) (ta : TE) : TE := fun σ H Q => ta σ H fun x H1 => r x H1 Q
/-- ints in, under C, and a value out -/
def rI (C : Int → Int → Prop) (g : Int → Int → V) : R2 := fun x y H Q => ∃ i j, x = .int i ∧ y = .int j ∧ C i j ∧ Q (g i j) H
def rI0 (g : Int → Int → V) : R2 := fun x y H Q => ∃ i j, x = .int i ∧ y = .int j ∧ Q (g i j) H
def rU (g : Int → V) : V → Hp → VK → Prop := fun x H Q => ∃ i, x = .int i ∧ Q (g i) H

section
variable {X : Cx} {a b c : Expr} {ta tb tc : TE} {pos : Pos}

theorem binT (ha : PE X a ta) (hb : PE X b tb) {pins : List (Addr × Obj)} {s : Shared} {σ : St} {H : Hp} {R : V → V → Hp → Prop} (I : Inv X pins σ H s)
    (h : ta σ H fun x H1 => tb σ H1 fun y H2 => R x y H2) {Q : Value → Shared → Prop} {f : Value → Value → Sem Value}
    (hf : ∀ v u s2 x y H2, Inv X pins σ H2 s2 → RelV x v → RelV y u → R x y H2 → wpAny (model X.prog X.w) X.A (f v u) Q X.xe s2) :
    wpAny (model X.prog X.w) X.A (eval a X.env) (fun v s₁ => wpAny (model X.prog X.w) X.A (eval b X.env) (fun u s₂ => wpAny (model X.prog X.w) X.A (f v u) Q X.xe s₂) X.xe s₁) X.xe s := by
  refine thn (ha pins s σ H _ I h) fun v s1 ⟨x, H1, I1, r1, q1⟩ => ?_
  refine thn (hb pins s1 σ H1 _ I1 q1) fun u s2 ⟨y, H2, I2, r2, q2⟩ => ?_
  exact hf v u s2 x y H2 I2 r1 r2 q2

theorem pe_op {op : Operator} {r : R2} (ho : OpR X (binaryOp op) r) (ha : PE X a ta) (hb : PE X b tb) : PE X (.BinOp a op b pos) (tOp r ta tb) := by
  intro pins s σ H Q I h
  exact wpAny_BinOp (binT ha hb I h fun v u s2 x y H2 I2 rx ry q => ho pins s2 σ H2 x y v u Q I2 rx ry q)
/-! ### ints -/
theorem opI {f : Value → Value → Sem Value} {C : Int → Int → Prop} {g : Int → Int → Int}
    (rule : ∀ (i j : Int) (t u : Tok) (s : Shared) (Q : Value → Shared → Prop) (E : Value → Shared → Prop), C i j → Q (.int (g i j) s.toks) { s with toks := s.toks + 1 } → wpAny (model X.prog X.w) X.A (f (.int i t) (.int j u)) Q E s) :
    OpR X f (rI C fun i j => .int (g i j)) := by
  intro pins s σ H x y v u Q I rx ry h
  obtain ⟨i, j, rfl, rfl, hc, q⟩ := h
  obtain ⟨t, rfl⟩ := rx
  obtain ⟨t', rfl⟩ := ry
  exact rule i j t t' s _ _ hc ⟨.int (g i j), H, I.tok _, ⟨_, rfl⟩, q⟩
theorem opI0 {f : Value → Value → Sem Value} {g : Int → Int → Int}
    (rule : ∀ (i j : Int) (t u : Tok) (s : Shared) (Q : Value → Shared → Prop) (E : Value → Shared → Prop), Q (.int (g i j) s.toks) { s with toks := s.toks + 1 } → wpAny (model X.prog X.w) X.A (f (.int i t) (.int j u)) Q E s) :
    OpR X f (rI0 fun i j => .int (g i j)) := by
  intro pins s σ H x y v u Q I rx ry h
  obtain ⟨i, j, rfl, rfl, q⟩ := h
  obtain ⟨t, rfl⟩ := rx
  obtain ⟨t', rfl⟩ := ry
  exact rule i j t t' s _ _ ⟨.int (g i j), H, I.tok _, ⟨_, rfl⟩, q⟩
theorem opB0 {f : Value → Value → Sem Value} {g : Int → Int → Bool}
    (rule : ∀ (i j : Int) (t u : Tok) (s : Shared) (Q : Value → Shared → Prop) (E : Value → Shared → Prop), Q (.bool (g i j)) s → wpAny (model X.prog X.w) X.A (f (.int i t) (.int j u)) Q E s) :
    OpR X f (rI0 fun i j => .bl (g i j)) := by
  intro pins s σ H x y v u Q I rx ry h
  obtain ⟨i, j, rfl, rfl, q⟩ := h
  obtain ⟨t, rfl⟩ := rx
  obtain ⟨t', rfl⟩ := ry
  exact rule i j t t' s _ _ ⟨.bl (g i j), H, I, rfl, q⟩

def CDiv (i j : Int) : Prop := 0 < j ∧ j < 1073741824
def CDivN (i j : Int) : Prop := j ≠ 0 ∧ j.natAbs < 1073741824
def CPow (i j : Int) : Prop := 0 ≤ j ∧ j ≤ 1000000 ∧ i.natAbs < 2 ^ 64
def CMul (i j : Int) : Prop := (-(2 ^ 64) < i ∧ i < 2 ^ 64) ∨ (-(2 ^ 64) < j ∧ j < 2 ^ 64)
theorem CMul.ok {i j : Int} (h : CMul i j) : IntMulOk i j := by
  rcases h with ⟨h1, h2⟩ | ⟨h1, h2⟩
  · exact .of_left (intBits_le_64 h1 h2)
  · exact .of_right (intBits_le_64 h1 h2)
theorem op_add : OpR X (binaryOp .Add) (rI0 fun i j => .int (i + j)) := opI0 fun _ _ _ _ _ _ _ q => add_int q
theorem op_sub : OpR X (binaryOp .Sub) (rI0 fun i j => .int (i - j)) := opI0 fun _ _ _ _ _ _ _ q => sub_int q
theorem op_mul : OpR X (binaryOp .Mult) (rI CMul fun i j => .int (i * j)) := opI fun _ _ _ _ _ _ _ hc q => mul_int q hc.ok
/-- // by a positive divisor -/
theorem op_fdiv : OpR X (binaryOp .FloorDiv) (rI CDiv fun i j => .int (i / j)) := opI fun i j _ _ _ _ _ hc q => by
  have h1 : (0 : Int) < j := hc.1
  have h2 : j < 1073741824 := hc.2
  exact floordiv_int (by omega) (by rw [Int.fdiv_eq_ediv_of_nonneg i (by omega)]; exact q) (.inl (PyProof.noPylong_small (by omega)))
/-- % by a positive divisor of any size -/
theorem op_mod : OpR X (binaryOp .Mod) (rI (fun _ j => 0 < j) fun i j => .int (i % j)) := opI fun i j _ _ _ _ _ hc q => by
  have h1 : (0 : Int) < j := hc
  exact mod_int' (by omega) (by rw [Int.fmod_eq_emod_of_nonneg i (by omega)]; exact q)
theorem op_pow : OpR X (binaryOp .Pow) (rI CPow fun i j => .int (i ^ j.toNat)) := opI fun _ _ _ _ _ _ _ hc q => pow_int_small hc.1 hc.2.1 hc.2.2 q
/-! ### bools among ints: n += (a < b) -/
end

/-! ### comparisons -/
/-- the scalars that == tells apart as data does -/
def scal : V → V → Bool
  | .non, .non => true | .non, .int _ => true | .int _, .non => true | .non, .bl _ => true | .bl _, .non => true | .non, .str _ => true | .str _, .non => true
  | .int _, .int _ => true | .bl _, .bl _ => true | .str _, .str _ => true | .byt _, .byt _ => true
  | .int _, .str _ => true | .str _, .int _ => true | .bl _, .str _ => true | .str _, .bl _ => true
  | _, _ => false
def rEq : R2 := fun x y H Q => scal x y = true ∧ Q (.bl (decide (x = y))) H
def rNe : R2 := fun x y H Q => scal x y = true ∧ Q (.bl (!decide (x = y))) H

theorem dec_int {i j : Int} : decide (V.int i = V.int j) = (i == j) := by
  rw [Bool.eq_iff_iff]
  simp
theorem dec_bl {i j : Bool} : decide (V.bl i = V.bl j) = (i == j) := by
  rw [Bool.eq_iff_iff]
  simp
theorem dec_str {i j : Str} : decide (V.str i = V.str j) = (i == j) := by
  rw [Bool.eq_iff_iff]
  simp
theorem dec_byt {i j : Array UInt8} : decide (V.byt i = V.byt j) = (i.toList == j.toList) := by
  rw [Bool.eq_iff_iff]
  cases i
  cases j
  simp

section
variable {X : Cx} {a b c : Expr} {ta tb tc : TE} {pos : Pos}
theorem fin_bl {pins : List (Addr × Obj)} {σ : St} {H : Hp} {s : Shared} {Q : VK} {k k' : Bool} (I : Inv X pins σ H s) (q : Q (.bl k) H) (e : k = k') : EP X pins σ Q (.bool k') s := by
  subst e
  exact ⟨.bl k, H, I, rfl, q⟩
theorem op_eq : OpR X (compareOp .Eq) rEq := by
  intro pins s σ H x y v u Q I rx ry h
  obtain ⟨hs, q⟩ := h
  cases x with
  | non =>
    cases rx
    cases y with
    | non => cases ry; exact PySem.EqNone.eq_none_none (fin_bl I q (by simp))
    | bl j => cases ry; exact PySem.EqNone.eq_none_bool (fin_bl I q (by simp))
    | int j => obtain ⟨t', rfl⟩ := ry; exact PySem.EqNone.eq_none_int (fin_bl I q (by simp))
    | str j => obtain ⟨t', rfl⟩ := ry; exact PySem.EqNone.eq_none_str (fin_bl I q (by simp))
    | _ => exact absurd (show false = true from hs) Bool.false_ne_true
  | bl i =>
    cases rx
    cases y with
    | non => cases ry; exact PySem.EqNone.eq_bool_none (fin_bl I q (by simp))
    | bl j => cases ry; exact eq_bool (fin_bl I q dec_bl)
    | str j => obtain ⟨t', rfl⟩ := ry; exact PySem.EqMixed.eq_bool_str (fin_bl I q (by simp))
    | _ => exact absurd (show false = true from hs) Bool.false_ne_true
  | int i =>
    obtain ⟨t, rfl⟩ := rx
    cases y with
    | non => cases ry; exact PySem.EqNone.eq_int_none (fin_bl I q (by simp))
    | int j => obtain ⟨t', rfl⟩ := ry; exact eq_int (fin_bl I q dec_int)
    | str j => obtain ⟨t', rfl⟩ := ry; exact PySem.EqMixed.eq_int_str (fin_bl I q (by simp))
    | _ => exact absurd (show false = true from hs) Bool.false_ne_true
  | str i =>
    obtain ⟨t, rfl⟩ := rx
    cases y with
    | non => cases ry; exact PySem.EqNone.eq_str_none (fin_bl I q (by simp))
    | bl j => cases ry; exact PySem.EqMixed.eq_str_bool (fin_bl I q (by simp))
    | int j => obtain ⟨t', rfl⟩ := ry; exact PySem.EqMixed.eq_str_int (fin_bl I q (by simp))
    | str j => obtain ⟨t', rfl⟩ := ry; exact eq_str (fin_bl I q dec_str)
    | _ => exact absurd (show false = true from hs) Bool.false_ne_true
  | byt i =>
    obtain ⟨t, rfl⟩ := rx
    cases y with
    | byt j => obtain ⟨t', rfl⟩ := ry; exact PySem.W.eq_bytes (fin_bl I q dec_byt)
    | _ => exact absurd (show false = true from hs) Bool.false_ne_true
  | _ => cases y <;> exact absurd (show false = true from hs) Bool.false_ne_true
theorem op_ne : OpR X (compareOp .NotEq) rNe := by
  intro pins s σ H x y v u Q I rx ry h
  obtain ⟨hs, q⟩ := h
  cases x with
  | non =>
    cases rx
    cases y with
    | non => cases ry; exact PySem.EqNone.ne_none_none (fin_bl I q (by simp))
    | bl j => cases ry; exact PySem.EqNone.ne_none_bool (fin_bl I q (by simp))
    | int j => obtain ⟨t', rfl⟩ := ry; exact PySem.EqNone.ne_none_int (fin_bl I q (by simp))
    | str j => obtain ⟨t', rfl⟩ := ry; exact PySem.EqNone.ne_none_str (fin_bl I q (by simp))
    | _ => exact absurd (show false = true from hs) Bool.false_ne_true
  | bl i =>
    cases rx
    cases y with
    | non => cases ry; exact PySem.EqNone.ne_bool_none (fin_bl I q (by simp))
    | bl j => cases ry; exact ne_bool (fin_bl I q (congrArg not dec_bl))
    | str j => obtain ⟨t', rfl⟩ := ry; exact PySem.EqMixed.ne_bool_str (fin_bl I q (by simp))
    | _ => exact absurd (show false = true from hs) Bool.false_ne_true
  | int i =>
    obtain ⟨t, rfl⟩ := rx
    cases y with
    | non => cases ry; exact PySem.EqNone.ne_int_none (fin_bl I q (by simp))
    | int j => obtain ⟨t', rfl⟩ := ry; exact ne_int (fin_bl I q (congrArg not dec_int))
    | str j => obtain ⟨t', rfl⟩ := ry; exact PySem.EqMixed.ne_int_str (fin_bl I q (by simp))
    | _ => exact absurd (show false = true from hs) Bool.false_ne_true
  | str i =>
    obtain ⟨t, rfl⟩ := rx
    cases y with
    | non => cases ry; exact PySem.EqNone.ne_str_none (fin_bl I q (by simp))
    | bl j => cases ry; exact PySem.EqMixed.ne_str_bool (fin_bl I q (by simp))
    | int j => obtain ⟨t', rfl⟩ := ry; exact PySem.EqMixed.ne_str_int (fin_bl I q (by simp))
    | str j => obtain ⟨t', rfl⟩ := ry; exact ne_str (fin_bl I q (congrArg not dec_str))
    | _ => exact absurd (show false = true from hs) Bool.false_ne_true
  | byt i =>
    obtain ⟨t, rfl⟩ := rx
    cases y with
    | byt j => obtain ⟨t', rfl⟩ := ry; exact PySem.W.ne_bytes (fin_bl I q (congrArg not dec_byt))
    | _ => exact absurd (show false = true from hs) Bool.false_ne_true
  | _ => cases y <;> exact absurd (show false = true from hs) Bool.false_ne_true

theorem op_lt : OpR X (compareOp .Lt) (rI0 fun i j => .bl (decide (i < j))) := opB0 fun _ _ _ _ _ _ _ q => lt_int q
theorem op_gt : OpR X (compareOp .Gt) (rI0 fun i j => .bl (decide (j < i))) := opB0 fun _ _ _ _ _ _ _ q => gt_int q
/-- is, is not of two objects that are tracked lists or instances -/
def isObj : HO → Bool
  | .lst _ => true
  | .ins _ _ _ => true
  | _ => false
theorem nomark (b : Expr) {op : CmpOp} (h : op ≠ .In := by decide) (h2 : op ≠ .NotIn := by decide) : behindInMarks op b = false := by
  have e1 : (op == CmpOp.In) = false := by cases op <;> first | rfl | exact absurd rfl h
  have e2 : (op == CmpOp.NotIn) = false := by cases op <;> first | rfl | exact absurd rfl h2
  cases b <;> simp [behindInMarks, e1, e2]
/-- a comparison as a value; hm: nomark b, or (for in, not in) by with_unfolding_all rfl -/
theorem pe_cmpR {op : CmpOp} {r : R2} (ho : OpR X (compareOp op) r) (ha : PE X a ta) (hb : PE X b tb) (hm : behindInMarks op b = false) : PE X (.Compare a [op] [b] pos) (tOp r ta tb) := by
  intro pins s σ H Q I h
  exact wpAny_Compare1 (binT ha hb I h fun v u s2 x y H2 I2 rx ry q => ho pins s2 σ H2 x y v u Q I2 rx ry q) hm
/-- a reading of a value as a test -/
def tTest (t : TE) : TT := fun σ H Q => t σ H fun x H' => ∃ k, x = .bl k ∧ Q k H'
theorem pt_cmpR {op : CmpOp} {r : R2} (ho : OpR X (compareOp op) r) (ha : PE X a ta) (hb : PE X b tb) (hm : behindInMarks op b = false) : PT X (.Compare a [op] [b] pos) (tTest (tOp r ta tb)) := by
  intro pins s σ H Q I h
  refine wpAny_isTrue_Compare1 (thn (ha pins s σ H _ I h) fun v s1 ⟨x, H1, I1, r1, q1⟩ => thn (hb pins s1 σ H1 _ I1 q1) fun u s2 ⟨y, H2, I2, r2, q2⟩ =>
    thn (ho pins s2 σ H2 x y v u _ I2 r1 r2 q2) fun c s3 ⟨z, H3, I3, r3, k, e, q3⟩ => ?_) hm
  subst e
  cases r3
  exact wpAny_truthy_bool ⟨H3, I3, q3⟩
/-- a op1 b op2 c -/
def tChain (r r' : R2) (ta tb tc : TE) : TE := fun σ H Q => ta σ H fun x H1 => tb σ H1 fun y H2 => r x y H2 fun z H3 => ∃ k, z = .bl k ∧
  (if k = true then tc σ H3 fun w' H4 => r' y w' H4 Q else Q (.bl false) H3)
/-! ### truth -/
/-- a value's truth by the abstract heap -/
def TruV (K : PySem.W.Frag) (x : V) (H : Hp) (k : Bool) : Prop :=
  match x with
  | .non => k = false
  | .bl b => k = b
  | .int i => k = (i != 0)
  | .str y => y.length ≤ sizeLine ∧ k = ((y.length : Int) != 0)
  | .byt y => y.size ≤ sizeLine ∧ k = ((y.size : Int) != 0)
  | .ref p => (∃ xs, SqL K H p xs ∧ k = !xs.isEmpty) ∨ (∃ xs, SqT K H p xs ∧ k = !xs.isEmpty) ∨ ∃ kvs, H p = some (.dK kvs) ∧ k = !kvs.isEmpty
  | _ => False
theorem line63 : (sizeLine : Nat) < 2 ^ 63 := by rw [sizeLine_eq]; decide
/-! ### strs and bytes -/
def PlainIxT (b : Expr) : Prop := ∀ o i, subscripted b false o i = operate [o, i] (getItem o i)
/-! ### scalar builtins, by CallR -/
theorem vals1 {x : V} {us : List Value} (r : Vals [x] us) : ∃ u, us = [u] ∧ RelV x u := by
  cases r with
  | cons r1 r2 => cases r2; exact ⟨_, rfl, r1⟩
theorem vals2 {x y : V} {us : List Value} (r : Vals [x, y] us) : ∃ u w', us = [u, w'] ∧ RelV x u ∧ RelV y w' := by
  cases r with
  | cons r1 r2 =>
    cases r2 with
    | cons r3 r4 => cases r4; exact ⟨_, _, rfl, r1, r3⟩
theorem call_max2 (hc : X.calm = true) : CallR X (.builtin "max") (fun xs H Q => ∃ i j, xs = [.int i, .int j] ∧ Q (.int (if j > i then j else i)) H) := by
  intro pins s σ H xs us Q I r h
  obtain ⟨i, j, rfl, q⟩ := h
  obtain ⟨u, w', rfl, ⟨t, rfl⟩, ⟨t', rfl⟩⟩ := vals2 r
  refine max_two_ints (I.ok.hd hc) fun h' tk k => ⟨_, H, I.kept k, ?_, q⟩
  by_cases hj : j > i
  · rw [if_pos hj, if_pos hj]; exact ⟨_, rfl⟩
  · rw [if_neg hj, if_neg hj]; exact ⟨_, rfl⟩
theorem call_min2 (hc : X.calm = true) : CallR X (.builtin "min") (fun xs H Q => ∃ i j, xs = [.int i, .int j] ∧ Q (.int (if j < i then j else i)) H) := by
  intro pins s σ H xs us Q I r h
  obtain ⟨i, j, rfl, q⟩ := h
  obtain ⟨u, w', rfl, ⟨t, rfl⟩, ⟨t', rfl⟩⟩ := vals2 r
  refine min_two_ints (I.ok.hd hc) fun h' tk k => ⟨_, H, I.kept k, ?_, q⟩
  by_cases hj : j < i
  · rw [if_pos hj, if_pos hj]; exact ⟨_, rfl⟩
  · rw [if_neg hj, if_neg hj]; exact ⟨_, rfl⟩
theorem call_int1 : CallR X (.type "int") (fun xs H Q => (∃ i, xs = [.int i] ∧ Q (.int i) H) ∨ ∃ k, xs = [.bl k] ∧ Q (.int (if k then 1 else 0)) H) := by
  intro pins s σ H xs us Q I r h
  rcases h with ⟨i, rfl, q⟩ | ⟨k, rfl, q⟩
  · obtain ⟨u, rfl, t, rfl⟩ := vals1 r
    exact call_int_int ⟨.int i, H, I, ⟨_, rfl⟩, q⟩
  · obtain ⟨u, rfl, r1⟩ := vals1 r
    cases r1
    exact call_int_bool ⟨.int (if k then 1 else 0), H, I.tok _, ⟨_, rfl⟩, q⟩
/-- len of a str, a bytes, a list, a tuple -/
def LenV (K : PySem.W.Frag) (x : V) (H : Hp) (n : Nat) : Prop :=
  match x with
  | .str y => y.length ≤ sizeLine ∧ n = y.length
  | .byt y => y.size ≤ sizeLine ∧ n = y.size
  | .ref p => (∃ xs, SqL K H p xs ∧ n = xs.length) ∨ ∃ xs, SqT K H p xs ∧ n = xs.length
  | _ => False
end
end L2

namespace L2
open PySem PySem.Spec PyProof.Rows

/-! ### an instance, its attributes a map -/
structure ObjM (h : Heap) (x dx C : Addr) (mA : Str → Option Value) : Prop where
  obj : h.get? x = some (PySem.W.instObj C dx)
  ns : h.Ns1 dx mA
  ne : dx ≠ x

theorem lookIn_ns {h : Heap} {dx : Addr} {mA : Str → Option Value} (n : h.Ns1 dx mA) : ∃ od, h.get? dx = some od ∧ ∀ name, PySem.W.lookIn name od = some (mA name) := by
  obtain ⟨o, es, ep, ho, hd, hk, _, hm⟩ := n
  refine ⟨o, ho, fun name => ?_⟩
  have e := hm name
  unfold nsFind findBy at e
  rw [← Array.find?_toList] at e
  unfold PySem.W.lookIn
  rw [hd]
  dsimp only
  split
  · rename_i y q
    rw [q] at e
    exact congrArg some e
  · rename_i q
    rw [q] at e
    have a : es.toList.any (·.refKey) = false := by
      rw [List.any_eq_false]
      intro y hy
      obtain ⟨z, t, hkey⟩ := hk y (Array.mem_toList_iff.mp hy)
      simp [DictEntry.refKey, hkey]
    have a' : ¬ es.toList.any (·.refKey) = true := by rw [a]; exact Bool.false_ne_true
    rw [if_neg a']
    exact congrArg some e

theorem ObjM.look {h : Heap} {x dx C : Addr} {mA : Str → Option Value} (I : ObjM h x dx C mA) : ∃ od, PySem.W.InstAt h x (PySem.W.instObj C dx) C (some od) ∧ ∀ name, PySem.W.lookIn name od = some (mA name) :=
  let ⟨od, ho, hl⟩ := lookIn_ns I.ns
  ⟨od, ⟨I.obj, rfl, rfl, ho⟩, hl⟩

section
variable {prog : Program} {w : World} {A : Around} {E : Value → Shared → Prop} {s : Shared} {K : PySem.W.Frag} {x dx C f : Addr} {mA : Str → Option Value} {name : Str} {v : Value}

theorem get_map {expr : Bool} {Q : Value → Shared → Prop} (X : K.In s.heap) (I : ObjM s.heap x dx C mA) (hg : PySem.W.plainGet K C name = true) (hh : PySem.W.hasDictIn K C = true)
    (ha : PySem.W.findIn K (.ref C) name = some none) (hv : mA name = some v) (hv' : PySem.W.handedIn v = true) (h : Q v { s with toks := s.toks + 1 }) :
    wpAny (model prog w) A (getAttr (.ref x) name expr) Q E s := by
  obtain ⟨od, J, hl⟩ := I.look
  exact PySem.W.get_value X J (PySem.W.plainGet_of hg).1 (PySem.W.findObj_own hh ha rfl (by rw [hl, hv])) hv' h

theorem get_meth {pl : Sem Bool} {Q : Value × List Value → Shared → Prop} (X : K.In s.heap) (I : ObjM s.heap x dx C mA) (hg : PySem.W.plainGet K C name = true)
    (hf : PySem.W.findIn K (.ref C) name = some (some (.ref f))) (ht : PySem.W.isFn K (.ref f) = true) (hv : mA name = none) (h : Q (.ref f, [.ref x]) s) :
    wpAny (model prog w) A (getMethod (.ref x) name pl) Q E s := by
  obtain ⟨od, J, hl⟩ := I.look
  exact PySem.W.method_fn X J (PySem.W.plainGet_of hg).1 (PySem.W.plainGet_of hg).2 hf (beq_iff_eq.mp ht) (by show (PySem.W.lookIn name od).map (·.isSome) = some false; rw [hl, hv]; rfl) h

theorem set_map {ns : List Str} {Q : Unit → Shared → Prop} (X : K.In s.heap) (I : ObjM s.heap x dx C mA)
    (hs : PySem.W.findIn K (.ref C) "__setattr__" = some (some (.builtin "object.__setattr__"))) (hp : PySem.W.plainOver K C = true) (ht : PySem.W.takerIn K C name = some none) (hh : PySem.W.hasDictIn K C = true)
    (hw : PySem.Within mA ns) (hsz : ns.length ≤ sizeLine)
    (h : ∀ h', ObjM h' x dx C (fun y => if y = name then some v else mA y) → Heap.SameBut dx s.heap h' → Q () { s with heap := h', toks := s.toks + 2 }) :
    wpAny (model prog w) A (setAttr (.ref x) name v) Q E s := by
  obtain ⟨od, J, hl⟩ := I.look
  refine PySem.W.set_plain X J hs (PySem.W.osa_open (s := { s with toks := s.toks + 1 }) (r := none) X J hp ht fun b => ?_)
  obtain ⟨cd, hc, hd'⟩ := PySem.W.any_some hh
  have hx : s.heap.get? x = some ⟨.ref C, some dx, .plain, #[]⟩ := I.obj
  refine wpAny_bind (wpAny_pure (wpAny_bind (wpAny_bind (wpAny_loadPart hx (wpAny_bind (PySem.W.Looks.here (s := { s with toks := s.toks + 1 }) (PySem.W.looks_clsIn X hc) ?_))))))
  rw [hd']
  refine wpAny_pure (a := some dx) (wpAny_bind (wpAny_pure (wpAny_bind ?_)))
  refine wpAny_nsSet1 (s := { s with toks := s.toks + 1 }) I.ns fun h' hn2 hs2 => ?_
  obtain ⟨oD, esD, epD, hoD, hdD, hcD⟩ := hn2.count (PySem.Within.cons name v hw)
  refine wpAny_bind (wpAny_lookBehind hoD (by rw [hdD]; exact pastItsLine_dict (Nat.le_trans hcD (by rw [List.length_cons]; omega))) ?_)
  exact wpAny_pure (h _ ⟨(hs2.2 _ (Ne.symm I.ne)).trans I.obj, hn2, I.ne⟩ hs2)

/-- C(..): the dict at the heap's end, the instance behind it; then its __init__ -/
theorem make_map {R : Result → Shared → Prop} {vs : List Value} {kw : List (Str × Value)} (X : K.In s.heap) (hm : PySem.W.makesIn K C = true)
    (hi : PySem.W.findIn K (.ref C) "__init__" = some (some (.ref f))) (hf : PySem.W.typeIn K (.ref f) = some (.type "function"))
    (h : codeAny (model prog w) (A.under (.builtin "type.__call__" ⟨.ref C :: vs, kw⟩)) (.call (.ref f) ⟨.ref (s.heap.objs.size + 1) :: vs, kw⟩) (PySem.W.InitBack (s.heap.objs.size + 1) R)
      { s with heap := (s.heap.push PySem.W.emptyDict).push (PySem.W.instObj C s.heap.objs.size) }) :
    codeAny (model prog w) A (.call (.ref C) ⟨vs, kw⟩) R s := by
  obtain ⟨hh, g, d, t, os⟩ := s
  exact PySem.W.make_core (PySem.W.makes_of X hm) (PySem.W.looks_findIn X hi) (fun self => PySem.W.bind_fn X self hf) (.inl rfl) h
end

/-! ### the attributes as a list of pairs -/
def putF (f : Str) (v : V) : List (Str × V) → List (Str × V)
  | [] => [(f, v)]
  | (g, x) :: r => if g = f then (g, v) :: r else (g, x) :: putF f v r
theorem lookup_putF (f g : Str) (v : V) : ∀ fs : List (Str × V), (putF f v fs).lookup g = if g = f then some v else fs.lookup g
  | [] => by
    show List.lookup g [(f, v)] = _
    by_cases h : g = f
    · have hb : (g == f) = true := beq_iff_eq.mpr h
      simp only [List.lookup, hb, if_pos h]
    · have hb : (g == f) = false := beq_eq_false_iff_ne.mpr h
      simp only [List.lookup, hb, if_neg h]
  | (k, x) :: r => by
    have ih := lookup_putF f g v r
    rw [show putF f v ((k, x) :: r) = (if k = f then (k, v) :: r else (k, x) :: putF f v r) from rfl]
    by_cases hk : k = f
    · rw [if_pos hk]
      by_cases h : g = k
      · have hb : (g == k) = true := beq_iff_eq.mpr h
        simp only [List.lookup, hb, if_pos (h.trans hk)]
      · have hb : (g == k) = false := beq_eq_false_iff_ne.mpr h
        simp only [List.lookup, hb, if_neg (fun e : g = f => h (e.trans hk.symm))]
    · rw [if_neg hk]
      by_cases h : g = k
      · have hb : (g == k) = true := beq_iff_eq.mpr h
        simp only [List.lookup, hb, if_neg (fun e : g = f => hk (h.symm.trans e))]
      · have hb : (g == k) = false := beq_eq_false_iff_ne.mpr h
        simp only [List.lookup, hb]
        exact ih
theorem keys_putF (f : Str) (v : V) : ∀ fs : List (Str × V), f ∈ (putF f v fs).map (·.1) ∧ ∀ g, g ∈ fs.map (·.1) → g ∈ (putF f v fs).map (·.1)
  | [] => ⟨by simp [putF], fun g h => by simp at h⟩
  | (k, x) :: r => by
    obtain ⟨i1, i2⟩ := keys_putF f v r
    rw [show putF f v ((k, x) :: r) = (if k = f then (k, v) :: r else (k, x) :: putF f v r) from rfl]
    by_cases hk : k = f
    · rw [if_pos hk]
      subst hk
      exact ⟨by simp, fun g h => by simpa using h⟩
    · rw [if_neg hk]
      refine ⟨?_, fun g h => ?_⟩
      · rw [List.map_cons]
        exact List.mem_cons_of_mem _ i1
      · rw [List.map_cons] at h ⊢
        rcases List.mem_cons.mp h with e | e
        · exact List.mem_cons.mpr (.inl e)
        · exact List.mem_cons_of_mem _ (i2 g e)
theorem length_putF (f : Str) (v : V) : ∀ fs : List (Str × V), (putF f v fs).length ≤ fs.length + 1
  | [] => by simp [putF]
  | (k, x) :: r => by
    have ih := length_putF f v r
    rw [show putF f v ((k, x) :: r) = (if k = f then (k, v) :: r else (k, x) :: putF f v r) from rfl]
    by_cases hk : k = f
    · rw [if_pos hk, List.length_cons, List.length_cons]; omega
    · rw [if_neg hk, List.length_cons, List.length_cons]; omega

theorem RelO.some_of {v : V} {o : Option Value} (r : RelO (some v) o) : ∃ u, o = some u ∧ RelV v u := by
  cases o with
  | none => exact (show False from r).elim
  | some u => exact ⟨u, rfl, r⟩
theorem RelO.none_of {o : Option Value} (r : RelO none o) : o = none := by
  cases o with
  | none => rfl
  | some u => exact (show False from r).elim
theorem handed_of {v : V} {u : Value} (r : RelV v u) : PySem.W.handedIn u = true := by
  cases v with
  | non => cases (show u = Value.none from r); rfl
  | bl b => cases (show u = Value.bool b from r); rfl
  | int i => obtain ⟨t, e⟩ := (show ∃ t, u = Value.int i t from r); cases e; rfl
  | str x => obtain ⟨t, e⟩ := (show ∃ t, u = Value.str x t from r); cases e; rfl
  | byt b => obtain ⟨t, e⟩ := (show ∃ t, u = Value.bytes b t from r); cases e; rfl
  | flt b => obtain ⟨t, e⟩ := (show ∃ t, u = Value.float b t from r); cases e; rfl
  | ref a => cases (show u = Value.ref a from r); rfl
  | ty n => cases (show u = Value.type n from r); rfl

section
variable {P : Program} {w : World} {H H' : Hp} {h h' : Heap} {a C dx : Addr} {fs fs' : List (Str × V)}
theorem ins_get (hok : HOk P w H h) (e : H a = some (.ins C dx fs)) : ∃ mA, ObjM h a dx C mA ∧ (∀ f, RelO (fs.lookup f) (mA f)) ∧ PySem.Within mA (fs.map (·.1)) ∧ fs.length ≤ 1000 ∧ H dx = some (.own a) := by
  obtain ⟨d, z, ne, ob, mA, n, r, q⟩ := (show ObjOk P w H h a (.ins C dx fs) from hok a _ e)
  exact ⟨mA, ⟨ob, n, ne⟩, r, q, z, d⟩
end

/-! ### what of the text a class must have -/
structure Cls (K : PySem.W.Frag) (C : Addr) : Prop where
  pg : PySem.W.plainGet K C Str.empty = true
  hd : PySem.W.hasDictIn K C = true
  po : PySem.W.plainOver K C = true
  sa : PySem.W.findIn K (.ref C) "__setattr__" = some (some (.builtin "object.__setattr__"))
theorem Cls.get {K : PySem.W.Frag} {C : Addr} (c : Cls K C) (f : Str) : PySem.W.plainGet K C f = true := c.pg
/-- no class of it has the name -/
def NoAttr (K : PySem.W.Frag) (C : Addr) (f : Str) : Prop := PySem.W.findIn K (.ref C) f = some none
theorem NoAttr.taker {K : PySem.W.Frag} {C : Addr} {f : Str} (n : NoAttr K C f) : PySem.W.takerIn K C f = some none := by
  unfold PySem.W.takerIn
  rw [show PySem.W.findIn K (.ref C) f = some none from n]
  rfl
/-- a constant of the class -/
structure Con (K : PySem.W.Frag) (C : Addr) (f : Str) (v : V) (u : Value) : Prop where
  at_ : PySem.W.findIn K (.ref C) f = some (some u)
  rel : RelV v u
  get : PySem.W.specialIn K u "__get__" = some none
  cp : PySem.W.copiedNames.contains f = false
/-- a method: a plain def of the class or of one above it -/
structure Meth (K : PySem.W.Frag) (C : Addr) (m : Str) (f : Addr) : Prop where
  at_ : PySem.W.findIn K (.ref C) m = some (some (.ref f))
  fn : PySem.W.isFn K (.ref f) = true
  kp : PySem.W.keepIn K (.ref f) = true

section
variable {X : Cx} {pins : List (Addr × Obj)} {σ : St} {H : Hp} {s : Shared} {a C dx : Addr} {fs : List (Str × V)} {f : Str} {v : V} {A : Around} {E : Value → Shared → Prop}

theorem getattr_ok {b : Bool} {Q : Value → Shared → Prop} (I : Inv X pins σ H s) (e : H a = some (.ins C dx fs)) (c : Cls X.K C) (n : NoAttr X.K C f) (l : fs.lookup f = some v)
    (h : ∀ u s', Inv X pins σ H s' → RelV v u → Q u s') : wpAny (model X.prog X.w) A (getAttr (.ref a) f b) Q E s := by
  obtain ⟨mA, O, r, _, _, _⟩ := ins_get I.hok e
  obtain ⟨u, hu, ru⟩ := RelO.some_of (v := v) (o := mA f) (by rw [← l]; exact r f)
  exact get_map I.kIn O (c.get f) c.hd n hu (handed_of ru) (h u _ (I.tok _) ru)

theorem getmeth_ok {m : Str} {g : Addr} {pl : Sem Bool} {Q : Value × List Value → Shared → Prop} (I : Inv X pins σ H s) (e : H a = some (.ins C dx fs)) (c : Cls X.K C) (k : Meth X.K C m g) (l : fs.lookup m = none)
    (h : Q (.ref g, [.ref a]) s) : wpAny (model X.prog X.w) A (getMethod (.ref a) m pl) Q E s := by
  obtain ⟨mA, O, r, _, _, _⟩ := ins_get I.hok e
  have hn : mA m = none := RelO.none_of (by rw [← l]; exact r m)
  exact get_meth I.kIn O (c.get m) k.at_ k.fn hn h

theorem setattr_ok {y : V} {u : Value} {Q : Unit → Shared → Prop} (I : Inv X pins σ H s) (e : H a = some (.ins C dx fs)) (c : Cls X.K C) (n : NoAttr X.K C f) (hl : fs.length < 1000) (ry : RelV y u)
    (h : ∀ s', Inv X pins σ (upd H a (.ins C dx (putF f y fs))) s' → Q () s') : wpAny (model X.prog X.w) A (setAttr (.ref a) f u) Q E s := by
  obtain ⟨mA, O, r, wi, _, ho⟩ := ins_get I.hok e
  have hz : (fs.map (·.1)).length ≤ sizeLine := by rw [List.length_map, sizeLine_eq]; omega
  refine set_map I.kIn O c.sa c.po n.taker c.hd wi hz fun h' O' sb => h _ ?_
  have hd : ∃ o, h'.get? dx = some o := let ⟨o, _, _, e', _⟩ := O'.ns; ⟨o, e'⟩
  refine I.write (x := a) (e := dx) (by rw [e]; exact True.intro) (.inr ho) (fun b q hb z => (sb.2 b hb).trans z) hd ?_
  refine ⟨by rw [upd_ne O.ne]; exact ho, ?_, O.ne, O'.obj, _, O'.ns, fun g => ?_, fun g hg => ?_⟩
  · have := length_putF f y fs; omega
  · show RelO ((putF f y fs).lookup g) (if g = f then some u else mA g)
    rw [lookup_putF]
    by_cases q : g = f
    · rw [if_pos q, if_pos q]; exact ry
    · rw [if_neg q, if_neg q]; exact r g
  · by_cases q : g = f
    · rw [q]; exact (keys_putF f y fs).1
    · refine (keys_putF f y fs).2 g (wi g fun z => hg ?_)
      show (if g = f then some u else mA g) = none
      rw [if_neg q]; exact z

/-- a new instance, tracked, without attributes -/
theorem Inv.made (I : Inv X pins σ H s) : Inv X pins σ (upd (upd H s.heap.objs.size (.own (s.heap.objs.size + 1))) (s.heap.objs.size + 1) (.ins C s.heap.objs.size []))
    { s with heap := (s.heap.push PySem.W.emptyDict).push (PySem.W.instObj C s.heap.objs.size) } := by
  have e1 : (s.heap.push PySem.W.emptyDict).get? s.heap.objs.size = some PySem.W.emptyDict := Heap.get?_push_size s.heap rfl
  have e2 : ((s.heap.push PySem.W.emptyDict).push (PySem.W.instObj C s.heap.objs.size)).get? (s.heap.objs.size + 1) = some (PySem.W.instObj C s.heap.objs.size) := by
    have := Heap.get?_push_size (s.heap.push PySem.W.emptyDict) (o := PySem.W.instObj C s.heap.objs.size) rfl
    rwa [Heap.size_push] at this
  have e3 : (s.heap.push PySem.W.emptyDict).Ns s.heap.objs.size (fun _ => none) := ⟨PySem.W.emptyDict, #[], _, e1, rfl, (fun e he => absurd he (by simp)), fun _ => rfl⟩
  have I1 := I.laid (a := s.heap.objs.size) (o := .own (s.heap.objs.size + 1)) (h' := s.heap.push PySem.W.emptyDict) (t' := s.toks) (fun b u q => Heap.get?_push_of_some _ q) (Nat.le_refl _) ⟨_, e1⟩
  refine I1.laid (a := s.heap.objs.size + 1) (o := .ins C s.heap.objs.size []) (t' := s.toks) (fun b u q => Heap.get?_push_of_some _ q) (Nat.le_of_eq (Heap.size_push _ _)) ?_
  have ne : s.heap.objs.size ≠ s.heap.objs.size + 1 := Nat.ne_of_lt (Nat.lt_succ_self _)
  refine ⟨by rw [upd_ne ne, upd_same], Nat.zero_le _, ne, e2, fun _ => none, (Heap.Ns1.of_empty e3).at fun o q => Heap.get?_push_of_some _ q, fun _ => True.intro, fun y hy => absurd rfl hy⟩

/-- e.f where nothing but the object is asked: through attributeBase (super) and the last hold -/
theorem attr_of {prog : Program} {w : World} {env : Env} {e : Expr} {f : Str} {pos : Pos} {s : Shared} {Q : Value → Shared → Prop} (hb : attributeBase e f env (eval e env) = eval e env)
    (h : wpAny (model prog w) A (eval e env) (fun o s₁ => wpAny (model prog w) A (getAttr o f true) Q E s₁) E s) : wpAny (model prog w) A (eval (.Attribute e f pos) env) Q E s :=
  Attribute_any_ h (by rw [arm_eval_Attribute, hb])
end

/-! ### readings and rules -/
/-- e.f, an attribute of the instance -/
def tFld (K : PySem.W.Frag) (ta : TE) (f : Str) : TE := fun σ H Q => ta σ H fun x H1 => ∃ a C dx fs v, x = .ref a ∧ H1 a = some (.ins C dx fs) ∧ Cls K C ∧ NoAttr K C f ∧ fs.lookup f = some v ∧ Q v H1
/-- e.f, a constant of the class -/
def tCon (K : PySem.W.Frag) (ta : TE) (f : Str) : TE := fun σ H Q => ta σ H fun x H1 => ∃ a C dx fs v u, x = .ref a ∧ H1 a = some (.ins C dx fs) ∧ Cls K C ∧ Con K C f v u ∧ fs.lookup f = none ∧ Q v H1
/-- e.f = value -/
def sFld (K : PySem.W.Frag) (ta tv : TE) (f : Str) : TS := fun D σ H => tv σ H fun y H1 => ta σ H1 fun x H2 => ∃ a C dx fs, x = .ref a ∧ H2 a = some (.ins C dx fs) ∧ Cls K C ∧ NoAttr K C f ∧ fs.length < 1000 ∧
  D.nx σ (upd H2 a (.ins C dx (putF f y fs)))
/-- an augmented operator on two values -/
def InOp (X : Cx) (op : Operator) (rd : V → V → Hp → VK → Prop) : Prop :=
  ∀ (pins : List (Addr × Obj)) (s : Shared) (σ : St) (H : Hp) (x y : V) (u v : Value) (Q : VK), Inv X pins σ H s → RelV x u → RelV y v → rd x y H Q → wpAny (model X.prog X.w) X.A (inplaceOp op u v) (EP X pins σ Q) X.xe s
/-- e.f op= value -/
def sFldAug (K : PySem.W.Frag) (ta tv : TE) (rd : V → V → Hp → VK → Prop) (f : Str) : TS := fun D σ H => ta σ H fun x H1 => ∃ a C dx fs v, x = .ref a ∧ H1 a = some (.ins C dx fs) ∧ Cls K C ∧ NoAttr K C f ∧ fs.lookup f = some v ∧
  tv σ H1 fun y H2 => rd v y H2 fun z H3 => ∃ dx' fs', H3 a = some (.ins C dx' fs') ∧ fs'.length < 1000 ∧ D.nx σ (upd H3 a (.ins C dx' (putF f z fs')))

section
variable {X : Cx} {o e value : Expr} {f : Str} {pos pos' tpos : Pos} {ta tv : TE}
theorem pe_fld (he : PE X e ta) (hb : attributeBase e f X.env (eval e X.env) = eval e X.env) : PE X (.Attribute e f pos) (tFld X.K ta f) := by
  intro pins s σ H Q I h
  refine attr_of hb (thn (he pins s σ H _ I h) fun u s1 ⟨x, H1, I1, rx, a, C, dx, fs, v, ex, ea, c, n, l, q⟩ => ?_)
  subst ex
  obtain rfl : u = Value.ref a := rx
  exact getattr_ok I1 ea c n l fun u' s2 I2 ru => ⟨v, H1, I2, ru, q⟩
theorem ps_fld (ha : PE X o ta) (hv : PE X value tv) (hs : swapsWith value (some (.Attribute o f pos')) pos.line X.env = pure false) : PS X (.Assign [.Attribute o f pos'] value pos) (sFld X.K ta tv f) := by
  intro pins s σ H D I h
  refine plainObj_wpAny_Assign_Attribute (thn (hv pins s σ H _ I h) fun u s1 ⟨y, H1, I1, ry, q⟩ => thn (ha pins s1 σ H1 _ I1 q) fun ov s2 ⟨x, H2, I2, rx, a, C, dx, fs, ex, ea, c, n, l, q2⟩ => ?_) hs
  subst ex
  obtain rfl : ov = Value.ref a := rx
  exact setattr_ok I2 ea c n l ry fun s3 I3 => ⟨σ, _, I3, q2⟩
def rAdd : V → V → Hp → VK → Prop := fun x y H Q => ∃ i j, x = .int i ∧ y = .int j ∧ Q (.int (i + j)) H
def rSub : V → V → Hp → VK → Prop := fun x y H Q => ∃ i j, x = .int i ∧ y = .int j ∧ Q (.int (i - j)) H
end

/-! ### isinstance -/
section
variable {X : Cx} {pins : List (Addr × Obj)} {σ : St} {H : Hp} {s : Shared} {A : Around} {E : Value → Shared → Prop} {Q : Value → Shared → Prop} {c : Value} {b : Bool}
/-- the type of a value, as the fragment's deciders take it; for an instance its class -/
inductive TyOf (K : PySem.W.Frag) (H : Hp) : V → Value → Prop where
  | non : TyOf K H .non (.type "NoneType")
  | bl (x : Bool) : TyOf K H (.bl x) (.type "bool")
  | int (i : Int) : TyOf K H (.int i) (.type "int")
  | str (x : Str) : TyOf K H (.str x) (.type "str")
  | flt (x : UInt64) : TyOf K H (.flt x) (.type "float")
  | lst {a : Addr} {xs : List V} (e : H a = some (.lst xs)) : TyOf K H (.ref a) (.type "list")
  | frz {a : Addr} {o : Obj} {xs : List V} (e : H a = some (.frz o (.lst xs))) : TyOf K H (.ref a) (.type "list")
  | tup {a : Addr} {xs : List V} (e : H a = some (.tup xs)) : TyOf K H (.ref a) (.type "tuple")
  | dK {a : Addr} {kvs : List (Key × V)} (e : H a = some (.dK kvs)) : TyOf K H (.ref a) (.type "dict")
  | dT {a : Addr} {kvs : List (List Key × V)} (e : H a = some (.dT kvs)) : TyOf K H (.ref a) (.type "dict")
  | ins {a C dx : Addr} {fs : List (Str × V)} (e : H a = some (.ins C dx fs)) (cl : Cls K C) (ha : PySem.W.findIn K (.ref C) "__class__" = some (some (.builtin "object.__class__")))
      (hn : PySem.W.specialIn K (.builtin "object.__class__") "__get__" = some (some (.builtin "getset_descriptor.__get__"))) (htk : PySem.W.takesIn K (.builtin "object.__class__") = some true)
      (hm : PySem.W.mroIn K C (.type "object") = some true) : TyOf K H (.ref a) (.ref C)
/-- isinstance(x, c) for one class c, a built-in or an own one: kitOne's answer -/
theorem isinst_ok {x : V} {u t : Value} (I : Inv X pins σ H s) (rx : RelV x u) (ty : TyOf X.K H x t) (e : PySem.W.kitOne X.K t c = some b) (h : ∀ tk, Q (.bool b) { s with toks := tk }) :
    wpAny (model X.prog X.w) A (call (.builtin "isinstance") [u, c]) Q E s := by
  cases ty with
  | non => cases (show u = Value.none from rx); exact PySem.W.kia_one PySem.W.kitx_none I.kIn True.intro e (fun z => nomatch z) h
  | bl y => cases (show u = Value.bool y from rx); exact PySem.W.kia_one PySem.W.kitx_bool I.kIn True.intro e (fun z => nomatch z) h
  | int i => obtain ⟨t, q⟩ := (show ∃ t, u = Value.int i t from rx); cases q; exact PySem.W.kia_one PySem.W.kitx_int I.kIn True.intro e (fun z => nomatch z) h
  | str y => obtain ⟨t, q⟩ := (show ∃ t, u = Value.str y t from rx); cases q; exact PySem.W.kia_one PySem.W.kitx_str I.kIn True.intro e (fun z => nomatch z) h
  | flt y => obtain ⟨t, q⟩ := (show ∃ t, u = Value.float y t from rx); cases q; exact PySem.W.kia_one PySem.W.kitx_float I.kIn True.intro e (fun z => nomatch z) h
  | @lst a xs ea =>
    cases (show u = Value.ref a from rx)
    obtain ⟨_, _, n, _, h1⟩ := (show ObjOk X.prog X.w H s.heap a (.lst xs) from I.hok a _ ea)
    exact PySem.W.kia_one PySem.W.kitx_list I.kIn ⟨_, h1, rfl⟩ e (fun z => nomatch z) h
  | @frz a ob xs ea =>
    cases (show u = Value.ref a from rx)
    obtain ⟨_, _, _, n, _, h1⟩ := (show ObjOk X.prog X.w H s.heap a (.frz ob (.lst xs)) from I.hok a _ ea)
    exact PySem.W.kia_one PySem.W.kitx_list I.kIn ⟨_, h1, rfl⟩ e (fun z => nomatch z) h
  | @tup a xs ea =>
    cases (show u = Value.ref a from rx)
    obtain ⟨_, _, _, p⟩ := (show ObjOk X.prog X.w H s.heap a (.tup xs) from I.hok a _ ea)
    obtain ⟨o, h1, h2, _⟩ := p
    exact PySem.W.kia_one PySem.W.kitx_tuple I.kIn ⟨o, h1, h2⟩ e (fun z => nomatch z) h
  | @dK a kvs ea =>
    cases (show u = Value.ref a from rx)
    obtain ⟨_, _, vs, _, p⟩ := (show ObjOk X.prog X.w H s.heap a (.dK kvs) from I.hok a _ ea)
    obtain ⟨o, es, ep, h1, h2, _⟩ := p
    exact PySem.W.kia_one PySem.W.kitx_dict I.kIn ⟨o, h1, h2.1⟩ e (fun z => nomatch z) h
  | @dT a kvs ea =>
    cases (show u = Value.ref a from rx)
    obtain ⟨_, _, xs, _, o, es, ep, h1, h2, _⟩ := (show ObjOk X.prog X.w H s.heap a (.dT kvs) from I.hok a _ ea)
    exact PySem.W.kia_one PySem.W.kitx_dict I.kIn ⟨o, h1, h2.1⟩ e (fun z => nomatch z) h
  | @ins a C dx fs ea cl ha hn htk hm =>
    cases (show u = Value.ref a from rx)
    obtain ⟨mA, O, _⟩ := ins_get I.hok ea
    obtain ⟨od, J, _⟩ := O.look
    exact PySem.W.kia_one (PySem.W.kitx_own (cl.get _) cl.hd ha hn htk hm) I.kIn J e (fun z => nomatch z) h
end
end L2

namespace L2
open PySem PySem.Spec PyProof.Rows

/-! ### room -/
structure Room (k : Nat) (A : Around) : Prop where
  hd : A.handled = none
  dp : A.depth + 3 * k + 5 < recursionLimit
  un : A.units + 16 * k + 200 < cLine
theorem Room.mono {j k : Nat} {A : Around} (r : Room k A) (h : j ≤ k) : Room j A := ⟨r.hd, by have := r.dp; omega, by have := r.un; omega⟩
theorem Room.deeper {k : Nat} {A : Around} (r : Room (k + 1) A) (env : Env) : Room k (A.deeper env) :=
  ⟨r.hd, by have := r.dp; show A.depth + 1 + 3 * k + 5 < _; omega, by have := r.un; show A.units + 3 + 16 * k + 200 < _; omega⟩
theorem make_depth {A : Around} {C : Addr} {us : List Value} {kw : List (Str × Value)} : (A.under (.builtin "type.__call__" ⟨.ref C :: us, kw⟩)).depth = A.depth + 1 := by
  first | rfl | simp [Around.under, Code.weight, Code.isCreation, Code.isGuard, Code.isCaller, Code.frames, Code.isFrame, guardIds]
theorem make_units {A : Around} {C : Addr} {us : List Value} {kw : List (Str × Value)} : (A.under (.builtin "type.__call__" ⟨.ref C :: us, kw⟩)).units = A.units + 1 := by
  first | rfl | simp [Around.under, Code.cUnits, Code.frames, Code.isFrame]
theorem Room.make {k : Nat} {A : Around} (r : Room (k + 1) A) (C : Addr) (us : List Value) (kw : List (Str × Value)) : Room k (A.under (.builtin "type.__call__" ⟨.ref C :: us, kw⟩)) :=
  ⟨r.hd, by have := r.dp; rw [make_depth]; omega, by have := r.un; rw [make_units]; omega⟩
theorem Room.depth {k : Nat} {A : Around} (r : Room k A) : A.depth < recursionLimit := by have := r.dp; omega
theorem Room.units {k : Nat} {A : Around} (r : Room k A) : A.units + 64 < cLine := by have := r.un; omega
/-! ### argument lists and displays -/
def tNil : TA := fun _ H Q => Q [] H
def tCons (ta : TE) (tr : TA) : TA := fun σ H Q => ta σ H fun x H1 => tr σ H1 fun xs H2 => Q (x :: xs) H2
section
variable {X : Cx} {e : Expr} {es : List Expr} {te : TE} {t : TA} {pos : Pos}
theorem pa_nil : PA X [] tNil := fun _ _ _ _ H Q I h => Calls.spliced_nil ⟨[], H, I, .nil, h⟩
theorem pa_cons (ha : PE X e te) (hr : PA X es t) (hs : starEach (e :: es) X.env = (false, eval e X.env) :: starEach es X.env := by rfl) : PA X (e :: es) (tCons te t) := by
  intro pos pins s σ H Q I h
  rw [hs]
  show wpAny _ _ (spliced ((false, eval e X.env) :: backTo pos (starEach es X.env))) _ _ s
  refine Calls.spliced_cons (thn (ha pins s σ H _ I h) fun u s1 ⟨x, H1, I1, r1, q1⟩ => ?_)
  exact thn (hr pos pins s1 σ H1 _ I1 q1) fun us s2 ⟨xs, H2, I2, r2, q2⟩ => ⟨x :: xs, H2, I2, .cons r1 r2, q2⟩

/-- a tuple, a list of written items -/
def tTup (t : TA) : TE := fun σ H Q => t σ H fun xs H1 => xs.length ≤ sizeLine ∧ ∀ p, H1 p = none → Q (.ref p) (upd H1 p (.tup xs))
def tLst (t : TA) : TE := fun σ H Q => t σ H fun xs H1 => xs.length ≤ sizeLine ∧ ∀ p, H1 p = none → Q (.ref p) (upd H1 p (.lst xs))
theorem pe_tup {x1} (h : PA X es t) : PE X (.Tuple es x1 pos) (tTup t) := by
  intro pins s σ H Q I hq
  refine wpAny_Tuple_spliced (thn (h pos pins s σ H _ I hq) fun us s1 ⟨xs, H1, I1, r, z, q⟩ => ⟨by rw [← r.length]; exact z, ?_⟩)
  have hf : H1 s1.heap.objs.size = none := I1.hok.fresh (Nat.le_refl _)
  refine ⟨.ref s1.heap.objs.size, upd H1 s1.heap.objs.size (.tup xs), I1.laid (t' := s1.toks) (fun b u e => Heap.get?_push_of_some _ e) (Nat.le_refl _) ?_, rfl, q _ hf⟩
  exact ⟨z, us, r, ⟨_, Heap.get?_push_size _ rfl, rfl, _, rfl⟩⟩
theorem pe_lst (h : PA X es t) : PE X (.List es pos) (tLst t) := by
  intro pins s σ H Q I hq
  refine wpAny_List_spliced (thn (h pos pins s σ H _ I hq) fun us s1 ⟨xs, H1, I1, r, z, q⟩ => ⟨by rw [← r.length]; exact z, ?_⟩)
  have hf : H1 s1.heap.objs.size = none := I1.hok.fresh (Nat.le_refl _)
  refine ⟨.ref s1.heap.objs.size, upd H1 s1.heap.objs.size (.lst xs), I1.laid (t' := s1.toks) (fun b u e => Heap.get?_push_of_some _ e) (Nat.le_refl _) ?_, rfl, q _ hf⟩
  exact ⟨z, us, 0, r, Heap.get?_push_size _ rfl⟩
end

/-! ### what a def promises -/
/-- a def's promise: the bound arguments in the parameters' order, the heap, the wanted end, the wanted exception -/
abbrev Sp := List V → Hp → VK → XK → Prop
/-- how an exception lies behind a call (file 08 gives it): the callers' frames, abstract heap and state ahead of the call, the wish, the exception, the state -/
abbrev CXT := List Env → Hp → Shared → XK → Value → Shared → Prop

/-- the state at a call -/
structure Env0 (P : Program) (w : World) (K : PySem.W.Frag) (mg : Str → Option Value) (base : Heap) (A : Around) (outer : List Env) (s : Shared) (H : Hp) : Prop where
  frames : A.frames = some outer
  mod : Mod K mg base
  bs : ∀ b o, base.get? b = some o → s.heap.get? b = some o ∧ H b = none
  bsz : base.objs.size ≤ s.heap.objs.size
  funs : s.heap.FunFrames base outer
  frf : ∀ b ∈ frs outer, H b = none
  hok : HOk P w H s.heap
  bare : AllBare s.gens
/-- a call's end -/
def CE (outer : List Env) (P : Program) (w : World) (H : Hp) (s : Shared) (Q : VK) (u : Value) (s' : Shared) : Prop :=
  ∃ v H', s'.os = s.os ∧ AllBare s'.gens ∧ Un (frs outer) [] H H' s.heap s'.heap ∧ HOk P w H' s'.heap ∧ RelV v u ∧ Q v H'
def CR (CX : CXT) (outer : List Env) (P : Program) (w : World) (H : Hp) (s : Shared) (Q : VK) (E : XK) (r : Result) (s' : Shared) : Prop :=
  match r with
  | .ok (.ret u) => CE outer P w H s Q u s'
  | .ok _ => False
  | .error e => CX outer H s E e s'
structure FnOk (P : Program) (w : World) (K : PySem.W.Frag) (mg : Str → Option Value) (base : Heap) (CX : CXT) (k : Nat) (f : Addr) (fd : FuncData) (ps : List Str) (sp : Sp) : Prop where
  len : ∀ vs H Q E, sp vs H Q E → vs.length = ps.length
  run : ∀ (A : Around) (outer : List Env) (s : Shared) (H : Hp) (args : Args) (us : List Value) (vs : List V) (Q : VK) (E : XK), Room k A → Env0 P w K mg base A outer s H → BindsTo s fd args (ps.zip us) → Vals vs us → sp vs H Q E →
    codeAny (model P w) A (.call (.ref f) args) (CR CX outer P w H s Q E) s
theorem Env0.make {P : Program} {w : World} {K : PySem.W.Frag} {mg : Str → Option Value} {base : Heap} {A : Around} {outer : List Env} {s : Shared} {H : Hp} (e : Env0 P w K mg base A outer s H) (C : Addr) (us : List Value) (kw : List (Str × Value)) :
    Env0 P w K mg base (A.under (.builtin "type.__call__" ⟨.ref C :: us, kw⟩)) outer s H := ⟨by first | exact e.frames | (simpa [Around.under, Code.envs, Code.isFrame, pushEnvs] using e.frames), e.mod, e.bs, e.bsz, e.funs, e.frf, e.hok, e.bare⟩
section
variable {X : Cx} {pins : List (Addr × Obj)} {σ : St} {H : Hp} {s s' : Shared}
/-- from a body: what a callee wants -/
theorem Inv.env0 (I : Inv X pins σ H s) : Env0 X.prog X.w X.K X.mg X.base X.A X.stack s H :=
  ⟨I.ok.frames, I.ok.mod, I.bs, Nat.le_trans I.ok.bsz I.sz, I.stack, I.stkFree, I.hok, I.bare⟩
/-- behind a call -/
theorem Inv.after {Q : VK} {u : Value} (I : Inv X pins σ H s) (h : CE X.stack X.prog X.w H s Q u s') : EP X pins σ Q u s' := by
  obtain ⟨v, H', os, bare, un, hok, r, q⟩ := h
  obtain ⟨hh, g, d, t, os'⟩ := s'
  obtain rfl : os' = s.os := os
  exact ⟨v, H', I.call (h' := hh) (g' := g) (d' := d) (t' := t) (ch := []) un hok bare (fun b z => absurd z (by simp)), r, q⟩
end

/-! ### calls -/
/-- f(..): the written arguments, then the defaults dvs; E: what is wanted of an exception -/
def tCall (sp : Sp) (dvs : List V) (E : XK) (t : TA) : TE := fun σ H Q => t σ H fun vs H1 => sp (vs ++ dvs) H1 Q E
/-- o.m(..) of an instance of the class at C -/
def tMeth (C : Addr) (m : Str) (sp : Sp) (dvs : List V) (E : XK) (ta : TE) (t : TA) : TE := fun σ H Q => ta σ H fun x H1 => ∃ a dx fs, x = .ref a ∧ H1 a = some (.ins C dx fs) ∧ fs.lookup m = none ∧
  t σ H1 fun vs H2 => sp (x :: (vs ++ dvs)) H2 Q E
/-- C(..): a new instance and its dict, then __init__ -/
def tMake (C : Addr) (sp : Sp) (dvs : List V) (E : XK) (t : TA) : TE := fun σ H Q => t σ H fun vs H1 => ∀ x dx, H1 x = none → H1 dx = none → dx ≠ x →
  sp (.ref x :: (vs ++ dvs)) (upd (upd H1 dx (.own x)) x (.ins C dx [])) (fun v H2 => v = .non ∧ Q (.ref x) H2) E

/-- how the parameters are bound: us the positional arguments, kw the keywords' values by name, ds the defaults that fill up -/
def Binds (K : PySem.W.Frag) (fd : FuncData) (ps : List Str) (ds : List Value) : Prop :=
  ∀ (s : Shared) (us : List Value), K.In s.heap → (us ++ ds).length = ps.length → BindsTo s fd ⟨us, []⟩ (ps.zip (us ++ ds))
/-- every parameter is given -/
theorem Binds.all {K : PySem.W.Frag} {fd : FuncData} {ps : List Str} (h : ∀ us : List Value, us.length = ps.length → bindArgs fd ⟨us, []⟩ = pure (ps.zip us)) : Binds K fd ps [] := fun s us _ hl => by
  rw [List.append_nil] at hl ⊢
  exact .of_eq (h us hl)

/-- an exception of a callee reaches what this body wants of exceptions -/
def Passes (CX : CXT) (X : Cx) (E : XK) : Prop := ∀ (pins : List (Addr × Obj)) (σ : St) (H : Hp) (s : Shared) (e : Value) (s' : Shared), Inv X pins σ H s → CX X.stack H s E e s' → X.xe e s'

section
variable {X : Cx} {CX : CXT} {k : Nat} {f C : Addr} {fd : FuncData} {ps : List Str} {sp : Sp} {dvs : List V} {ds : List Value} {E : XK} {x m : Str} {p pos apos : Pos} {e o : Expr} {es : List Expr} {ta : TE} {t : TA}

/-- the callee runs -/
theorem run_fn {pins : List (Addr × Obj)} {σ : St} {H : Hp} {s : Shared} {Q : VK} {us : List Value} {vs : List V} (F : FnOk X.prog X.w X.K X.mg X.base CX k f fd ps sp) (hr : Room k X.A) (hb : Binds X.K fd ps ds) (hd : Vals dvs ds) (hx : Passes CX X E)
    (I : Inv X pins σ H s) (r : Vals vs us) (h : sp (vs ++ dvs) H Q E) : wpAny (model X.prog X.w) X.A (call (.ref f) us) (EP X pins σ Q) X.xe s := by
  have r2 : Vals (vs ++ dvs) (us ++ ds) := r.append hd
  have hl : (us ++ ds).length = ps.length := by rw [← r2.length]; exact F.len _ _ _ _ h
  refine wpAny_call (codeAny_mono (F.run X.A X.stack s H ⟨us, []⟩ (us ++ ds) (vs ++ dvs) Q E hr I.env0 (hb s us I.kIn hl) r2 h) fun r s' hq => ?_)
  cases r with
  | error e => exact hx pins σ H s e s' I hq
  | ok fl =>
    cases fl with
    | ret u => exact I.after hq
    | next => exact False.elim hq
    | brk => exact False.elim hq
    | cont => exact False.elim hq

theorem pe_call (F : FnOk X.prog X.w X.K X.mg X.base CX k f fd ps sp) (hr : Room k X.A) (hg : Gl X x) (hm : X.mg x = some (.ref f)) (hk : PySem.W.keepIn X.K (.ref f) = true) (hb : Binds X.K fd ps ds) (hd : Vals dvs ds) (hx : Passes CX X E)
    (ha : PA X (e :: es) t) (hdb : (x == ("__debug__" : Str)) = false := by decide) (he : starEach (e :: es) X.env = (false, eval e X.env) :: starEach es X.env := by rfl) (hpl : (backTo pos (starEach es X.env)).any (·.1) = false := by rfl) :
    PE X (.Call (.Name x p) (e :: es) [] pos) (tCall sp dvs E t) := by
  intro pins s σ H Q I h
  refine wpAny_Call_Name_kw (ld_glob I hg hm ?_ hdb)
  refine PySem.W.callWith_K (h₀ := X.base) I.ok.mod.kin hk (thn (ha pos pins s σ H _ I h) fun us s1 ⟨vs, H1, I1, r, q⟩ => ⟨I1.kIn, ?_⟩) he hpl
  exact run_fn F hr hb hd hx I1 r q
/-- o.m(e, ..) -/
theorem pe_meth {pl : Sem Bool} (he : PE X o ta) (c : Cls X.K C) (hm : Meth X.K C m f) (F : FnOk X.prog X.w X.K X.mg X.base CX k f fd ps sp) (hr : Room k X.A) (hb : Binds X.K fd ps ds) (hd : Vals dvs ds) (hx : Passes CX X E) (ha : PA X (e :: es) t)
    (hst : starEach (e :: es) X.env = (false, eval e X.env) :: starEach es X.env := by rfl) (hpl : (backTo pos (starEach es X.env)).any (·.1) = false := by rfl)
    (ht : eval (.Call (.Attribute o m apos) (e :: es) [] pos) X.env = (do
      let ov ← eval o X.env
      standAt apos.atName
      let (f, first) ← holding [ov] (getMethod ov m pl)
      callWith pos f first (backTo pos (starEach (e :: es) X.env)) (backToKw pos (keywordEach [] X.env))) := by rfl) :
    PE X (.Call (.Attribute o m apos) (e :: es) [] pos) (tMeth C m sp dvs E ta t) := by
  intro pins s σ H Q I h
  refine PySem.W.methodCall_KW (pl := pl) (thn (he pins s σ H _ I h) fun u s1 ⟨x, H1, I1, rx, a, dx, fs, ex, ea, l, q⟩ => ?_) ht
  subst ex
  obtain rfl : u = Value.ref a := rx
  refine getmeth_ok I1 ea c hm l ?_
  refine PySem.W.callWith_K (first := [.ref a]) (h₀ := X.base) I.ok.mod.kin hm.kp (thn (ha pos pins s1 σ H1 _ I1 q) fun us s2 ⟨vs, H2, I2, r, q2⟩ => ⟨I2.kIn, ?_⟩) hst hpl
  exact run_fn (us := .ref a :: us) (vs := .ref a :: vs) F hr hb hd hx I2 (.cons rfl r) q2
/-- what a class must have to be made -/
structure Mk (K : PySem.W.Frag) (C f : Addr) : Prop where
  makes : PySem.W.makesIn K C = true
  init : PySem.W.findIn K (.ref C) "__init__" = some (some (.ref f))
  fn : PySem.W.isFn K (.ref f) = true
  kp : PySem.W.keepIn K (.ref C) = true

theorem run_make {pins : List (Addr × Obj)} {σ : St} {H : Hp} {s : Shared} {Q : VK} {us : List Value} {vs : List V} (M : Mk X.K C f) (F : FnOk X.prog X.w X.K X.mg X.base CX k f fd ps sp) (hr : Room (k + 1) X.A) (hb : Binds X.K fd ps ds) (hd : Vals dvs ds)
    (hx : Passes CX X E) (I : Inv X pins σ H s) (r : Vals vs us)
    (h : ∀ x dx, H x = none → H dx = none → dx ≠ x → sp (.ref x :: (vs ++ dvs)) (upd (upd H dx (.own x)) x (.ins C dx [])) (fun v H2 => v = .non ∧ Q (.ref x) H2) E) :
    wpAny (model X.prog X.w) X.A (call (.ref C) us) (EP X pins σ Q) X.xe s := by
  have hq := h (s.heap.objs.size + 1) s.heap.objs.size (I.hok.fresh (Nat.le_succ _)) (I.hok.fresh (Nat.le_refl _)) (Nat.ne_of_lt (Nat.lt_succ_self _))
  have I2 := Inv.made (C := C) I
  have r2 : Vals (V.ref (s.heap.objs.size + 1) :: (vs ++ dvs)) (Value.ref (s.heap.objs.size + 1) :: (us ++ ds)) := .cons rfl (r.append hd)
  have hl : (Value.ref (s.heap.objs.size + 1) :: us ++ ds).length = ps.length := by
    have e := r2.length
    rw [F.len _ _ _ _ hq] at e
    exact e.symm
  refine wpAny_call (make_map (f := f) I.kIn M.makes M.init (beq_iff_eq.mp M.fn) (codeAny_mono (F.run _ X.stack _ _ ⟨Value.ref (s.heap.objs.size + 1) :: us, []⟩ (Value.ref (s.heap.objs.size + 1) :: (us ++ ds)) _ _ E (hr.make C us [])
    (I2.env0.make C us []) (hb _ (Value.ref (s.heap.objs.size + 1) :: us) I2.kIn hl) r2 hq) fun r s' hq' => ?_))
  cases r with
  | error e => exact hx pins σ _ _ e s' I2 hq'
  | ok fl =>
    cases fl with
    | ret u =>
      obtain ⟨v, H', I3, rv, ev, q3⟩ := I2.after hq'
      subst ev
      exact ⟨rv, ⟨V.ref (s.heap.objs.size + 1), H', I3, rfl, q3⟩⟩
    | next => exact False.elim hq'
    | brk => exact False.elim hq'
    | cont => exact False.elim hq'
theorem pe_make (M : Mk X.K C f) (F : FnOk X.prog X.w X.K X.mg X.base CX k f fd ps sp) (hr : Room (k + 1) X.A) (hg : Gl X x) (hm : X.mg x = some (.ref C)) (hb : Binds X.K fd ps ds) (hd : Vals dvs ds) (hx : Passes CX X E)
    (ha : PA X (e :: es) t) (hdb : (x == ("__debug__" : Str)) = false := by decide) (he : starEach (e :: es) X.env = (false, eval e X.env) :: starEach es X.env := by rfl) (hpl : (backTo pos (starEach es X.env)).any (·.1) = false := by rfl) :
    PE X (.Call (.Name x p) (e :: es) [] pos) (tMake C sp dvs E t) := by
  intro pins s σ H Q I h
  refine wpAny_Call_Name_kw (ld_glob I hg hm ?_ hdb)
  refine PySem.W.callWith_K (h₀ := X.base) I.ok.mod.kin M.kp (thn (ha pos pins s σ H _ I h) fun us s1 ⟨vs, H1, I1, r, q⟩ => ⟨I1.kIn, ?_⟩) he hpl
  exact run_make M F hr hb hd hx I1 r q
end

/-! ### keywords -/
/-- the values of the keywords, from the left -/
def PK (X : Cx) (kws : List Keyword) (t : TA) : Prop :=
  ∀ (pos : Pos) (pins : List (Addr × Obj)) (s : Shared) (σ : St) (H : Hp) (Q : List V → Hp → Prop), Inv X pins σ H s → t σ H Q → wpAny (model X.prog X.w) X.A (evalAll ((backToKw pos (keywordEach kws X.env)).map (·.2))) (AP X pins σ Q) X.xe s
section
variable {X : Cx} {CX : CXT} {k : Nat} {f C : Addr} {fd : FuncData} {ps ks : List Str} {sp : Sp} {E : XK} {x m : Str} {p pos apos kpos : Pos} {e o : Expr} {es : List Expr} {kws : List Keyword} {te ta : TE} {t tk : TA} {nm : Option Str}
/-- how a call with keywords binds: g puts the positional values us and the keywords' values ws (names ks) in the parameters' order, defaults among them -/
structure KBinds (K : PySem.W.Frag) (fd : FuncData) (ps ks : List Str) (g : List Value → List Value → List Value) (gV : List V → List V → List V) : Prop where
  to : ∀ (s : Shared) (us ws : List Value), K.In s.heap → (g us ws).length = ps.length → BindsTo s fd ⟨us, ks.zip ws⟩ (ps.zip (g us ws))
  rel : ∀ {vs : List V} {us : List Value} {zs : List V} {ws : List Value}, Vals vs us → Vals zs ws → Vals (gV vs zs) (g us ws)
def tCallK (sp : Sp) (gV : List V → List V → List V) (E : XK) (t tk : TA) : TE := fun σ H Q => t σ H fun vs H1 => tk σ H1 fun zs H2 => sp (gV vs zs) H2 Q E
variable {g : List Value → List Value → List Value} {gV : List V → List V → List V}
end

/-! ### a def's body keeps its promise -/
/-- names: the parameters first -/
structure FnScope (N P : List Str) (sc : Scope) : Prop where
  kind : sc.kind = .function
  co : sc.isCoroutine = false
  gen : sc.isGenerator = false
  nd : N.Nodup
  pre : N.take P.length = P
  par : ∀ x ∈ P, sc.names.lookup x = some .local ∨ sc.names.lookup x = some .cell
  nofree : ∀ y ∈ sc.names, y.2 ≠ .free

theorem bindL_out {kindOf : Str → Option NameKind} {x : Str} : ∀ {binds : List (Str × Value)} {m : Str → Option Value}, (∀ v, (x, v) ∉ binds) → bindL kindOf binds m x = m x
  | [], _, _ => rfl
  | (n, v) :: r, m, h => by
    unfold bindL
    rw [bindL_out fun w hw => h w (List.mem_cons_of_mem _ hw)]
    split
    · have : x ≠ n := by rintro rfl; exact h v List.mem_cons_self
      simp [this]
    · rfl
theorem bindC_out {kindOf : Str → Option NameKind} {x : Str} : ∀ {binds : List (Str × Value)} {m : Str → Option Value}, (∀ v, (x, v) ∉ binds) → bindC kindOf binds m x = m x
  | [], _, _ => rfl
  | (n, v) :: r, m, h => by
    unfold bindC
    rw [bindC_out fun w hw => h w (List.mem_cons_of_mem _ hw)]
    split
    · rfl
    · have : x ≠ n := by rintro rfl; exact h v List.mem_cons_self
      simp [this]
theorem bindL_get {kindOf : Str → Option NameKind} {x : Str} {v : Value} : ∀ {P : List Str} {vs : List Value} {i : Nat} {m : Str → Option Value}, P.Nodup → P[i]? = some x → vs[i]? = some v → kindOf x = some .local →
    bindL kindOf (P.zip vs) m x = some v
  | [], _, _, _, _, h, _, _ => by simp at h
  | _ :: _, [], _, _, _, _, h, _ => by simp at h
  | p :: P, w :: vs, 0, m, nd, h1, h2, hk => by
    simp at h1 h2; subst h1; subst h2
    show bindL kindOf ((p, w) :: P.zip vs) m p = _
    unfold bindL
    rw [bindL_out fun v hv => (List.nodup_cons.mp nd).1 (List.of_mem_zip hv).1, if_pos hk]
    simp
  | p :: P, w :: vs, i + 1, m, nd, h1, h2, hk => by
    show bindL kindOf ((p, w) :: P.zip vs) m x = _
    unfold bindL
    exact bindL_get (i := i) (List.nodup_cons.mp nd).2 (by simpa using h1) (by simpa using h2) hk
theorem bindC_get {kindOf : Str → Option NameKind} {x : Str} {v : Value} : ∀ {P : List Str} {vs : List Value} {i : Nat} {m : Str → Option Value}, P.Nodup → P[i]? = some x → vs[i]? = some v → kindOf x ≠ some .local →
    bindC kindOf (P.zip vs) m x = some v
  | [], _, _, _, _, h, _, _ => by simp at h
  | _ :: _, [], _, _, _, _, h, _ => by simp at h
  | p :: P, w :: vs, 0, m, nd, h1, h2, hk => by
    simp at h1 h2; subst h1; subst h2
    show bindC kindOf ((p, w) :: P.zip vs) m p = _
    unfold bindC
    rw [bindC_out fun v hv => (List.nodup_cons.mp nd).1 (List.of_mem_zip hv).1, if_neg hk]
    simp
  | p :: P, w :: vs, i + 1, m, nd, h1, h2, hk => by
    show bindC kindOf ((p, w) :: P.zip vs) m x = _
    unfold bindC
    exact bindC_get (i := i) (List.nodup_cons.mp nd).2 (by simpa using h1) (by simpa using h2) hk

/-- the names' values at the entry -/
def start (N : List Str) (vs : List V) : St := vs.map some ++ List.replicate (N.length - vs.length) none

/-- the context of a def's body, at its entry; an exception leaves the frame, then lies as CX says -/
def cxOf (CX : CXT) (P : Program) (w : World) (K : PySem.W.Frag) (mg : Str → Option Value) (base : Heap) (N : List Str) (qual : Str) (scope : Scope) (f : Addr) (cd : Value) (A : Around) (outer : List Env) (s : Shared) (H : Hp) (E : XK) : Cx where
  prog := P
  w := w
  K := K
  mg := mg
  base := base
  A := A.deeper (envOfC qual scope s.heap.objs.size f cd)
  N := N
  s₀ := s
  H₀ := H
  env := envOfC qual scope s.heap.objs.size f cd
  outer := outer
  stack := envOfC qual scope s.heap.objs.size f cd :: outer
  ex := []
  calm := true
  fn := fun _ => true
  pn := []
  xe := fun e s' => wpAny (model P w) (A.deeper (envOfC qual scope s.heap.objs.size f cd)) (leaving (envOfC qual scope s.heap.objs.size f cd) e) (fun _ s'' => CX outer H s E e s'') (fun e' s'' => CX outer H s E e' s'') s'

theorem cell_has {sc : Scope} {n : Nat} {x : Str} (h : sc.names.lookup x = some .cell) : ∃ c, (cellsFrom n sc.names []).lookup x = some c := by
  have q := PySem.W.cellsFrom_some sc.names n [] (.inl h)
  exact Option.isSome_iff_exists.mp q

theorem inv_start {CX : CXT} {P : Program} {w : World} {K : PySem.W.Frag} {mg : Str → Option Value} {base : Heap} {N ps : List Str} {qual : Str} {scope : Scope} {f : Addr} {cd : Value} {A : Around} {outer : List Env} {s s1 : Shared} {H : Hp} {E : XK} {us : List Value} {vs : List V}
    (S : FnScope N ps scope) (hd : A.handled = none) (e0 : Env0 P w K mg base A outer s H) (hl : vs.length = ps.length) (r : Vals vs us)
    (x : InCallC s s.heap.objs.size (bindL (envOfC qual scope s.heap.objs.size f cd).kindOf (ps.zip us) fun _ => none) (cellsFrom (s.heap.objs.size + 1) scope.names []) (bindC (envOfC qual scope s.heap.objs.size f cd).kindOf (ps.zip us) fun _ => none) s1) :
    Inv (cxOf CX P w K mg base N qual scope f cd A outer s H E) [] (start N vs) H s1 := by
  have hpl : ps.length ≤ N.length := by have := congrArg List.length S.pre; rw [List.length_take] at this; omega
  obtain ⟨h1, tk, rfl, hk⟩ := x.done
  have noA : ∀ b : Addr, b ∉ (cxOf CX P w K mg base N qual scope f cd A outer s H E).ex := fun b z => absurd (show b ∈ ([] : List Addr) from z) (by simp)
  refine ⟨⟨e0.mod, S.kind, rfl, rfl, Nat.le_refl _, fun y z c h1 h2 => ?_, fun y hy => ?_, fun y c _ h => ?_, fun _ => hd, Around.frames_deeper e0.frames, .inr ⟨rfl, rfl⟩, fun b z => absurd z (noA b), e0.bs, e0.bsz, fun b _ _ => noA b, fun b z => absurd z (noA b), e0.funs, e0.frf⟩,
    rfl, e0.bare, Un.kept hk, ⟨_, x.toInCall.ns, fun i y v h1 h2 h3 => ?_⟩, fun y c h => ⟨_, x.cell y c h⟩, e0.hok.fresh (Nat.le_refl _), fun y c h => ?_, fun p hp => absurd (show p ∈ ([] : List (Addr × Obj)) from hp) (by simp), e0.hok.kept hk, ?_⟩
  · exact name_of_addr x.apart (PySem.mem_of_lookup h1) (PySem.mem_of_lookup h2)
  · have hy : scope.names.lookup y = some .cell ∨ scope.names.lookup y = some .free := hy
    rcases hy with hy | hy
    · exact cell_has hy
    · exact absurd rfl (S.nofree _ (PySem.mem_of_lookup hy))
  · exact Nat.le_of_lt (x.above y c (PySem.mem_of_lookup h))
  · have hi : i < vs.length := by
      unfold start at h2
      by_cases hi : i < vs.length
      · exact hi
      · rw [List.getElem?_append_right (by simpa using hi)] at h2
        rw [List.getElem?_replicate] at h2
        split at h2 <;> cases h2
    have ha : vs[i]? = some v := by
      unfold start at h2
      rw [List.getElem?_append_left (by simpa using hi), List.getElem?_map] at h2
      cases e : vs[i]? with
      | none => rw [e] at h2; cases h2
      | some a => rw [e] at h2; cases h2; rfl
    obtain ⟨u, hu, rv⟩ := r.get ha
    have hp : ps[i]? = some y := by
      rw [← S.pre, List.getElem?_take_of_lt (by omega)]; exact h1
    have ndP : ps.Nodup := by rw [← S.pre]; exact S.nd.sublist (List.take_sublist _ _)
    refine ⟨u, rv, ?_⟩
    rcases S.par y (List.mem_of_getElem? hp) with k | k
    · exact .inl ⟨k, bindL_get ndP hp hu k⟩
    · obtain ⟨c, e⟩ := cell_has (n := s.heap.objs.size + 1) k
      refine .inr ⟨.inl k, c, e, ?_⟩
      have q := x.cell y c e
      rw [bindC_get ndP hp hu (by show scope.names.lookup y ≠ _; rw [k]; decide)] at q
      exact q
  · exact e0.hok.fresh (Nat.le_of_lt (x.above y c (PySem.mem_of_lookup h)))
  · unfold start
    show _ = N.length
    rw [List.length_append, List.length_map, List.length_replicate]
    omega

/-- THE RULE: a def (or a method) of the text, by its body. The body's reading t is chosen for each entry; it is run at the parameters' values -/
theorem fn_of {CX : CXT} {P : Program} {w : World} {K : PySem.W.Frag} {mg : Str → Option Value} {base : Heap} {k : Nat} {f : Addr} {name qual : Str} {params : Arguments} {body : List Stmt} {scope : Scope} {dV kV doc pm cdv ct oc : Value} {an od : Option Addr}
    {osl : Array (Option Value)} {N ps : List Str} {sp : Sp} (lk : K.lookup f = some ⟨oc, od, .func (PySem.W.fnOf name qual params body scope dV kV doc pm an cdv ct), osl⟩) (hcd : PySem.W.codeIn K cdv qual = true) (S : FnScope N ps scope)
    (len : ∀ vs H Q E, sp vs H Q E → vs.length = ps.length)
    (hbody : ∀ (A : Around) (outer : List Env) (s : Shared) (H : Hp) (vs : List V) (Q : VK) (E : XK), Room k (A.deeper (envOfC qual scope s.heap.objs.size f cdv)) → sp vs H Q E →
      ∃ t, PSs (cxOf CX P w K mg base N qual scope f cdv A outer s H E) body t ∧ t { nx := fun _ H' => Q .non H', rt := Q } (start N vs) H) :
    FnOk P w K mg base CX (k + 1) f (PySem.W.fnOf name qual params body scope dV kV doc pm an cdv ct) ps sp := by
  refine ⟨len, fun A outer s H args us vs Q E hr e0 hb r hsp => ?_⟩
  have hl := len _ _ _ _ hsp
  have KX : K.In s.heap := e0.mod.kin.keeps fun b o e => (e0.bs b o e).1
  have lim : s.heap.NoLimit := e0.mod.nolimit.keeps fun b o e => (e0.bs b o e).1
  have hkind : ∀ y ∈ ps.zip us, scope.names.lookup y.1 = some .local ∨ (scope.names.lookup y.1 = some .cell ∧ ((cellsFrom (s.heap.objs.size + 1) scope.names []).lookup y.1).isSome = true) := fun ⟨n, v⟩ hy => by
    rcases S.par n (List.of_mem_zip hy).1 with q | q
    · exact .inl q
    · exact .inr ⟨q, PySem.W.cellsFrom_some _ _ _ (.inl q)⟩
  refine codeAny_call_function hr.depth (KX _ _ lk) rfl S.co S.gen rfl (PySem.W.codeRec_of KX hcd) (hb _ _ _ _ ?_)
  refine wpAny_newFunctionEnv_cells S.kind hkind fun env he s1 x => ?_
  subst he
  refine ⟨lim.keeps x.toInCall.keep, codeAny_func ?_⟩
  obtain ⟨t, ht, hq⟩ := hbody A outer s H vs Q E (hr.deeper _) hsp
  have I : Inv (cxOf CX P w K mg base N qual scope f cdv A outer s H E) [] (start N vs) H s1 := inv_start S hr.hd e0 hl r x
  refine wpAny_mono (ht [] s1 (start N vs) H _ I hq) (fun fl s' hs => ?_) fun e s' hs => hs
  have fin : ∀ {σ' : St} {H' : Hp} {v : V} {u : Value}, Inv (cxOf CX P w K mg base N qual scope f cdv A outer s H E) [] σ' H' s' → RelV v u → Q v H' → CE outer P w H s Q u s' :=
    fun {σ' H' v u} J rv q => ⟨v, H', J.os, J.bare, J.base, J.hok, rv, q⟩
  cases fl with
  | ret u =>
    obtain ⟨v, σ', H', J, rv, q⟩ := hs
    exact fin J rv q
  | next =>
    obtain ⟨σ', H', J, q⟩ := hs
    exact fin (v := V.non) (u := Value.none) J rfl q
  | brk =>
    obtain ⟨_, _, _, q⟩ := hs
    exact False.elim q
  | cont =>
    obtain ⟨_, _, _, q⟩ := hs
    exact False.elim q
end L2

namespace L2
open PySem PySem.Spec PyProof.Rows
section
variable {X : Cx} {x : Str} {p pos : Pos} {e : Expr} {es : List Expr} {t : TA} {id T : String} {r : List V → Hp → VK → Prop}

def tCB (r : List V → Hp → VK → Prop) (t : TA) : TE := fun σ H Q => t σ H fun vs H1 => r vs H1 Q
/-- f(e, ..), f a built-in function -/
theorem pe_callB (hc : CallR X (.builtin id) r) (hg : Gl X x) (hm : X.mg x = none) (hv : bootBuiltins x = some (.builtin id)) (ha : PA X (e :: es) t) (hn : x ≠ "__name__" := by decide) (hdb : (x == ("__debug__" : Str)) = false := by decide)
    (he : starEach (e :: es) X.env = (false, eval e X.env) :: starEach es X.env := by rfl) (hpl : (backTo pos (starEach es X.env)).any (·.1) = false := by rfl) : PE X (.Call (.Name x p) (e :: es) [] pos) (tCB r t) := by
  intro pins s σ H Q I h
  refine wpAny_Call_Name_kw (ld_blt I hg hm hv ?_ hn hdb)
  exact PyProof.Rows.callWith_builtin1 (thn (ha pos pins s σ H _ I h) fun us s1 ⟨vs, H1, I1, r1, q1⟩ => hc pins s1 σ H1 vs us Q I1 r1 q1) he hpl
/-- T(e, ..), T a built-in type -/
theorem pe_callTy (hc : CallR X (.type T) r) (hg : Gl X x) (hm : X.mg x = none) (hv : bootBuiltins x = some (.type T)) (ha : PA X (e :: es) t) (hn : x ≠ "__name__" := by decide) (hdb : (x == ("__debug__" : Str)) = false := by decide)
    (he : starEach (e :: es) X.env = (false, eval e X.env) :: starEach es X.env := by rfl) (hpl : (backTo pos (starEach es X.env)).any (·.1) = false := by rfl) : PE X (.Call (.Name x p) (e :: es) [] pos) (tCB r t) := by
  intro pins s σ H Q I h
  refine wpAny_Call_Name_kw (ld_blt I hg hm hv ?_ hn hdb)
  exact PyProof.Rows.callWith_type1 (thn (ha pos pins s σ H _ I h) fun us s1 ⟨vs, H1, I1, r1, q1⟩ => hc pins s1 σ H1 vs us Q I1 r1 q1) he hpl
end
end L2

namespace HT
open PySem PyProof.Rows

/-- t < u of tuples of ints -/
def lexLt : List Int → List Int → Bool
  | [], [] => false
  | [], _ :: _ => true
  | _ :: _, [] => false
  | x :: xs, y :: ys => if x = y then lexLt xs ys else decide (x < y)
section
open PySem.SeqAt
open PySem.AutoSeq1 (wpAny_loadPart')
open PySem.MeetsSeq PySem.MeetsSeq2 PySem.MeetsSeq3

end

section
variable {prog : Program} {w : World} {A : Around} {E : Value → Shared → Prop} {s : Shared}

/-! ### t[a:b], not the whole -/
/-- a slice's bound as a place among n (d where it is left out) -/
def sIx (n d : Nat) : Option Int → Nat
  | none => d
  | some v => if v < 0 then (v + (n : Int)).toNat else min v.toNat n
theorem sIx_none (n d : Nat) : sIx n d none = d := rfl
theorem sIx_nat (n d k : Nat) : sIx n d (some (k : Int)) = min k n := by
  show (if (k : Int) < 0 then ((k : Int) + (n : Int)).toNat else min (k : Int).toNat n) = min k n
  rw [if_neg (by omega), Int.toNat_natCast]
end
end HT

namespace L2
open PySem PySem.Spec PyProof.Rows

/-! ### the parts of a slice -/
abbrev TO := St → Hp → (Option Int → Hp → Prop) → Prop
/-- a slice's part (left out, or an int) -/
def PO (X : Cx) (e : Option Expr) (t : TO) : Prop :=
  ∀ (pins : List (Addr × Obj)) (s : Shared) (σ : St) (H : Hp) (Q : Option Int → Hp → Prop), Inv X pins σ H s → t σ H Q →
    wpAny (model X.prog X.w) X.A (evalPart e X.env) (fun u s' => ∃ o H', Inv X pins σ H' s' ∧ IsPart u o ∧ Q o H') X.xe s
def tNoPart : TO := fun _ H Q => Q none H
def tPart (t : TE) : TO := fun σ H Q => t σ H fun x H1 => ∃ i, x = .int i ∧ Q (some i) H1

theorem intsAre_of {ns : List Int} : ∀ {us : List Value}, Vals (ns.map V.int) us → IntsAre us ns := by
  induction ns with
  | nil => intro us r; rw [List.map_nil] at r; cases r; exact .nil
  | cons n ns ih =>
    intro us r
    rw [List.map_cons] at r
    cases r with
    | cons r1 r2 =>
      obtain ⟨t, e⟩ := r1
      subst e
      exact .cons n t (ih r2)

section
variable {X : Cx} {e : Expr} {te : TE} {lo hi : Option Expr} {tl th : TO} {pos p2 : Pos}

theorem po_none : PO X none tNoPart := by
  intro pins s σ H Q I h
  rw [evalPart_none]
  exact wpAny_pure ⟨none, H, I, .none, h⟩
theorem po_some (h : PE X e te) : PO X (some e) (tPart te) := by
  intro pins s σ H Q I hw
  rw [evalPart_some]
  refine thn (h pins s σ H _ I hw) fun u s1 ⟨x, H1, I1, r1, q1⟩ => ?_
  obtain ⟨i, rfl, q⟩ := q1
  obtain ⟨t, rfl⟩ := r1
  exact ⟨some i, H1, I1, .int i t, q⟩

/-- what a slice of a value is, by values: the slice object stands at sl -/
def SlR (X : Cx) (r : V → Option Int → Option Int → Hp → VK → Prop) : Prop :=
  ∀ (pins : List (Addr × Obj)) (s : Shared) (σ : St) (H : Hp) (x : V) (v vl vu : Value) (lo hi : Option Int) (sl : Addr) (Q : VK), Inv X pins σ H s → RelV x v → s.heap.IsSliceOf sl vl vu .none → IsPart vl lo → IsPart vu hi → r x lo hi H Q →
    ∃ T id, typeLookup (.type T) "__getitem__" = pure (some (.builtin id)) ∧ s.TypeIs v T ∧ wpAny (model X.prog X.w) X.A (getItem v (.ref sl)) (EP X pins σ Q) X.xe s
def tSl (r : V → Option Int → Option Int → Hp → VK → Prop) (te : TE) (tl th : TO) : TE := fun σ H Q => te σ H fun x H1 => tl σ H1 fun l H2 => th σ H2 fun u H3 => r x l u H3 Q
/-- a[lo:hi], any a -/
theorem pe_slice {r : V → Option Int → Option Int → Hp → VK → Prop} (hr : SlR X r) (he : PE X e te) (hl : PO X lo tl) (hu : PO X hi th) : PE X (.Subscript e (.Slice lo hi none p2) pos) (tSl r te tl th) := by
  intro pins s σ H Q I h
  refine Subscript_ (thn (he pins s σ H _ I h) fun v s1 ⟨x, H1, I1, r1, q1⟩ => ?_)
  refine wpAny_Slice (thn (hl pins s1 σ H1 _ I1 q1) fun vl s2 ⟨l, H2, I2, pl, q2⟩ => thn (hu pins s2 σ H2 _ I2 q2) fun vu s3 ⟨u, H3, I3, pu, q3⟩ => ?_)
  rw [evalPart_none]
  refine wpAny_pure ?_
  have I4 : Inv X pins σ H3 { s3 with heap := s3.heap.push { cls := .type "slice", data := .fields #[vl, vu, .none] } } := I3.kept (t' := s3.toks) fun b ob q => Heap.get?_push_of_some _ q
  obtain ⟨T, id, hT, ht, hg⟩ := hr pins { s3 with heap := s3.heap.push { cls := .type "slice", data := .fields #[vl, vu, .none] } } σ H3 x v vl vu l u s3.heap.objs.size Q I4 r1 (Heap.IsSliceOf.new ..) pl pu q3
  show wpAny (model X.prog X.w) X.A (subscriptTail e (.Slice lo hi none p2) v (.ref s3.heap.objs.size)) (EP X pins σ Q) X.xe { s3 with heap := s3.heap.push { cls := .type "slice", data := .fields #[vl, vu, .none] } }
  exact tail_any (ops := [.ref s3.heap.objs.size, v]) ht hT hg (by with_unfolding_all rfl)

/-- the items of xs[lo:hi] -/
def cutV (xs : List V) (lo hi : Option Int) : List V := (xs.drop (HT.sIx xs.length 0 lo)).take (HT.sIx xs.length xs.length hi - HT.sIx xs.length 0 lo)
theorem cutV_length (xs : List V) (lo hi : Option Int) : (cutV xs lo hi).length ≤ xs.length := by
  unfold cutV
  rw [List.length_take, List.length_drop]
  omega
/-- t[lo:hi], not the whole of it (the whole would be t itself) -/
def rSlT (K : PySem.W.Frag) : V → Option Int → Option Int → Hp → VK → Prop := fun x lo hi H Q => ∃ a xs, x = .ref a ∧ SqT K H a xs ∧
  ¬ (HT.sIx xs.length 0 lo = 0 ∧ HT.sIx xs.length xs.length hi = xs.length) ∧ ∀ p, H p = none → Q (.ref p) (upd H p (.tup (cutV xs lo hi)))
/-! ### t < u, t + u -/
def rLtT (K : PySem.W.Frag) : R2 := fun x y H Q => ∃ a b ns ms, x = .ref a ∧ y = .ref b ∧ SqT K H a (ns.map V.int) ∧ SqT K H b (ms.map V.int) ∧ Q (.bl (HT.lexLt ns ms)) H
/-- t + u, t not empty: u empty gives t itself -/
def rCatT (K : PySem.W.Frag) : R2 := fun x y H Q => ∃ a b xs ys, x = .ref a ∧ y = .ref b ∧ SqT K H a xs ∧ SqT K H b ys ∧ xs ≠ [] ∧ xs.length + ys.length ≤ sizeLine ∧
  (ys = [] → Q (.ref a) H) ∧ (ys ≠ [] → ∀ p, H p = none → Q (.ref p) (upd H p (.tup (xs ++ ys))))
end
end L2

namespace L2
open PySem PySem.Spec PyProof.Rows

/-! ### places -/
/-- the place that an index of any sign means -/
def ixN (n : Nat) (i : Int) : Option Nat := if 0 ≤ i then (if i < n then some i.toNat else none) else if -(n : Int) ≤ i then some (i + n).toNat else none
def atI {α : Type} (xs : List α) (i : Int) : Option α := (ixN xs.length i).bind fun j => xs[j]?
theorem ixN_seq {n : Nat} {i : Int} {j : Nat} (h : ixN n i = some j) : seqIndex? i n = some j ∧ j < n ∧ -(n : Int) ≤ i ∧ i < n := by
  unfold ixN at h
  by_cases h0 : 0 ≤ i
  · rw [if_pos h0] at h
    by_cases h1 : i < n
    · rw [if_pos h1] at h
      have e : i.toNat = j := Option.some.inj h
      exact ⟨by rw [seqIndex_of h0 h1, e], by omega, by omega, h1⟩
    · rw [if_neg h1] at h; cases h
  · rw [if_neg h0] at h
    by_cases h1 : -(n : Int) ≤ i
    · rw [if_pos h1] at h
      have e : (i + n).toNat = j := Option.some.inj h
      exact ⟨by rw [seqIndex_neg (by omega) h1, e], by omega, h1, by omega⟩
    · rw [if_neg h1] at h; cases h
theorem atI_get {α : Type} {xs : List α} {i : Int} {v : α} (h : atI xs i = some v) : ∃ j, seqIndex? i xs.length = some j ∧ xs[j]? = some v ∧ j < xs.length ∧ -(xs.length : Int) ≤ i ∧ i < xs.length := by
  unfold atI at h
  cases e : ixN xs.length i with
  | none => rw [e] at h; cases h
  | some j =>
    rw [e] at h
    obtain ⟨h1, h2, h3, h4⟩ := ixN_seq e
    exact ⟨j, h1, h, h2, h3, h4⟩
theorem atI_nat {α : Type} {xs : List α} {j : Nat} {v : α} (h : xs[j]? = some v) : atI xs (j : Int) = some v := by
  have hj : j < xs.length := (List.getElem?_eq_some_iff.mp h).1
  have e : ixN xs.length (j : Int) = some j := by
    unfold ixN
    rw [if_pos (by omega), if_pos (by omega)]; simp
  unfold atI; rw [e]; exact h
/-! ### what may be subscripted -/
/-- what stands as an index of a plain subscript -/
def PlainIx (b : Expr) : Prop := ∀ o i, subscripted b false o i = operate [o, i] (getItem o i)
/-- a subscript by values -/
def IxR (X : Cx) (r : R2) : Prop :=
  ∀ (value slice : Expr) (pins : List (Addr × Obj)) (s : Shared) (σ : St) (H : Hp) (x y : V) (v u : Value) (Q : VK), Inv X pins σ H s → RelV x v → RelV y u → r x y H Q →
    subscripted slice false v u = operate [v, u] (getItem v u) → wpAny (model X.prog X.w) X.A (subscriptTail value slice v u) (EP X pins σ Q) X.xe s
/-- a call of a builtin's method by values: the receiver, the arguments -/
def MtR (X : Cx) (id : String) (r : V → List V → Hp → VK → Prop) : Prop :=
  ∀ (pins : List (Addr × Obj)) (s : Shared) (σ : St) (H : Hp) (x : V) (xs : List V) (v : Value) (us : List Value) (Q : VK), Inv X pins σ H s → RelV x v → Vals xs us → r x xs H Q →
    wpAny (model X.prog X.w) X.A (call (.builtin id) (v :: us)) (EP X pins σ Q) X.xe s
section
variable {X : Cx} {a b : Expr} {ta tb : TE} {pos : Pos}
/-- a[b] -/
theorem pe_ix {r : R2} (hr : IxR X r) (ha : PE X a ta) (hb : PE X b tb) (hs : PlainIx b) : PE X (.Subscript a b pos) (tOp r ta tb) := by
  intro pins s σ H Q I h
  exact Subscript_ (binT ha hb I h fun v u s2 x y H2 I2 rx ry q => hr a b pins s2 σ H2 x y v u Q I2 rx ry q (hs _ _))

def rIxL (K : PySem.W.Frag) : R2 := fun x y H Q => ∃ p xs i v, x = .ref p ∧ y = .int i ∧ SqL K H p xs ∧ atI xs i = some v ∧ Q v H
def rIxT (K : PySem.W.Frag) : R2 := fun x y H Q => ∃ p xs i v, x = .ref p ∧ y = .int i ∧ SqT K H p xs ∧ atI xs i = some v ∧ Q v H
def rIxS : R2 := fun x y H Q => ∃ z i c, x = .str z ∧ y = .int i ∧ z.length ≤ sizeLine ∧ atI z.cps.toList i = some c ∧ Q (.str ⟨#[c]⟩) H
theorem ix_list : IxR X (rIxL X.K) := by
  intro value slice pins s σ H x y v u Q I rx ry h hs
  obtain ⟨p, xs, i, z, rfl, rfl, hq, he, q⟩ := h
  cases rx
  obtain ⟨t, rfl⟩ := ry
  obtain ⟨its, r, pl, hz⟩ := I.list hq
  obtain ⟨j, h1, h2, h3, h4, h5⟩ := atI_get he
  obtain ⟨w, ew, rw'⟩ := r.get h2
  have hl := r.length
  have hn := line63
  have fin : EP X pins σ Q w s := ⟨z, H, I, rw', q⟩
  by_cases h0 : 0 ≤ i
  · have hj : i.toNat = j := by
      rw [seqIndex_of h0 h5] at h1
      exact Option.some.inj h1
    exact item_listR pl.isList h0 (by omega) (by rw [hj]; simpa using ew) fin hs
  · have hj : (i + (its.toArray.size : Int)).toNat = j := by
      rw [seqIndex_neg (by omega) h4] at h1
      rw [List.size_toArray, ← hl]
      exact Option.some.inj h1
    exact subscriptTail_builtinR (x := w) pl.isList.typeIs slot_list_getitem.lookup
      (wpAny_getItem_list_neg (Q := fun r s' => r = w ∧ EP X pins σ Q r s') pl.isList (by omega) (by rw [List.size_toArray] <;> omega) (by omega) (by rw [hj]; simpa using ew) ⟨rfl, fin⟩) hs
theorem ix_tup : IxR X (rIxT X.K) := by
  intro value slice pins s σ H x y v u Q I rx ry h hs
  obtain ⟨p, xs, i, z, rfl, rfl, hq, he, q⟩ := h
  cases rx
  obtain ⟨t, rfl⟩ := ry
  obtain ⟨its, r, pl, hz⟩ := I.tuple hq
  obtain ⟨j, h1, h2, h3, h4, h5⟩ := atI_get he
  obtain ⟨w, ew, rw'⟩ := r.get h2
  have hl := r.length
  have hn := line63
  have fin : EP X pins σ Q w s := ⟨z, H, I, rw', q⟩
  exact subscriptTail_builtinR (x := w) pl.typeIs slot_tuple_getitem.lookup
    (getItem_tuple (j := j) (Q := fun r s' => r = w ∧ EP X pins σ Q r s') pl (by omega) (by omega) (by rw [List.size_toArray, ← hl]; exact h1) (by simpa using ew) ⟨rfl, fin⟩) hs
/-- list, tuple or str -/
def rIx (K : PySem.W.Frag) : R2 := fun x y H Q => rIxL K x y H Q ∨ rIxT K x y H Q ∨ rIxS x y H Q
/-! ### xs[i] = v, any sign -/
def rSetL : V → V → V → Hp → (Hp → Prop) → Prop := fun o i v H Q => ∃ p xs k j, o = .ref p ∧ i = .int k ∧ H p = some (.lst xs) ∧ ixN xs.length k = some j ∧ Q (upd H p (.lst (xs.set j v)))
/-! ### slices -/
theorem slice_bounds (lo hi : Option Int) (n : Nat) : (sliceBounds lo hi none n).1 = ((HT.sIx n 0 lo : Nat) : Int) ∧ (sliceBounds lo hi none n).2.1 = ((HT.sIx n n hi : Nat) : Int) ∧ (sliceBounds lo hi none n).2.2 = 1 := by
  refine ⟨?_, ?_, rfl⟩
  · cases lo with
    | none => simp [sliceBounds, HT.sIx]
    | some i =>
      simp only [sliceBounds, HT.sIx, Option.getD_none, show (1 : Int) > 0 by decide, if_true]
      by_cases h : i < 0
      · simp only [h, if_true] <;> omega
      · simp only [h, if_false] <;> omega
  · cases hi with
    | none => simp [sliceBounds, HT.sIx]
    | some i =>
      simp only [sliceBounds, HT.sIx, Option.getD_none, show (1 : Int) > 0 by decide, if_true]
      by_cases h : i < 0
      · simp only [h, if_true] <;> omega
      · simp only [h, if_false] <;> omega
theorem slicePick_cut (its : List Value) (lo hi : Option Int) : slicePick its.toArray lo hi none = ((its.drop (HT.sIx its.length 0 lo)).take (HT.sIx its.length its.length hi - HT.sIx its.length 0 lo)).toArray := by
  obtain ⟨h1, h2, h3⟩ := slice_bounds lo hi its.toArray.size
  unfold slicePick
  rw [h1, h2, h3]
  simp only [sliceRange_one, pick_run, List.size_toArray] <;> rfl
/-- xs[lo:hi] of a list: a new list -/
def rSlL (K : PySem.W.Frag) : V → Option Int → Option Int → Hp → VK → Prop := fun x lo hi H Q => ∃ a xs, x = .ref a ∧ SqL K H a xs ∧ ∀ p, H p = none → Q (.ref p) (upd H p (.lst (cutV xs lo hi)))
theorem sl_list : SlR X (rSlL X.K) := by
  intro pins s σ H x v vl vu lo hi sl Q I rx hs pl pu h
  obtain ⟨a, xs, rfl, hx, q⟩ := h
  cases rx
  obtain ⟨its, r, ht, hz⟩ := I.list hx
  have hlen := r.length
  refine ⟨"list", _, slot_list_getitem.lookup, ht.isList.typeIs, ?_⟩
  refine wpAny_getItem_list_slice ht.isList hs pl pu .none (by simp) ?_ (by rw [List.size_toArray] <;> omega)
  rw [slicePick_cut, ← hlen]
  refine ⟨.ref s.heap.objs.size, _, I.laid (t' := s.toks) (o := .lst (cutV xs lo hi)) (fun b ob q => Heap.get?_push_of_some _ q) (Nat.le_refl _) ?_, rfl, q _ (I.hok.fresh (Nat.le_refl _))⟩
  exact ⟨Nat.le_trans (cutV_length xs lo hi) hz, _, 0, (r.drop (HT.sIx xs.length 0 lo)).take (HT.sIx xs.length xs.length hi - HT.sIx xs.length 0 lo), Heap.get?_push_size _ rfl⟩

/-! ### in, not in: flat items -/
def flatV : V → Bool
  | .non => true
  | .bl _ => true
  | .int _ => true
  | .str _ => true
  | _ => false
/-- == of flat values -/
def eqV : V → V → Bool
  | .non, .non => true
  | .bl a, .bl b => a == b
  | .bl a, .int b => (if a then 1 else 0) == b
  | .int a, .bl b => a == (if b then 1 else 0)
  | .int a, .int b => a == b
  | .str a, .str b => a == b
  | _, _ => false
theorem eqAt_V {A : Around} {s : Shared} {y x : V} {u v : Value} (ry : RelV y u) (rx : RelV x v) (fy : flatV y = true) (fx : flatV x = true) : SeqAt.EqAt A s u v (eqV y x) := by
  cases y with
  | non =>
    cases ry
    cases x with
    | non => cases rx; exact SeqAt.EqAt.same _
    | bl b => cases rx; exact SeqAt.EqAt.none_bool b
    | int b => obtain ⟨t, rfl⟩ := rx; exact SeqAt.EqAt.none_int b t
    | str b => obtain ⟨t, rfl⟩ := rx; exact SeqAt.EqAt.none_str b t
    | _ => exact absurd (show false = true from fx) Bool.false_ne_true
  | bl a =>
    cases ry
    cases x with
    | non => cases rx; exact SeqAt.EqAt.bool_none a
    | bl b => cases rx; exact SeqAt.EqAt.bool_bool a b
    | int b => obtain ⟨t, rfl⟩ := rx; exact SeqAt.EqAt.bool_int a b t
    | str b => obtain ⟨t, rfl⟩ := rx; exact SeqAt.EqAt.bool_str a b t
    | _ => exact absurd (show false = true from fx) Bool.false_ne_true
  | int a =>
    obtain ⟨t', rfl⟩ := ry
    cases x with
    | non => cases rx; exact SeqAt.EqAt.int_none a t'
    | bl b => cases rx; exact SeqAt.EqAt.int_bool a t' b
    | int b => obtain ⟨t, rfl⟩ := rx; exact SeqAt.EqAt.int_int a t' b t
    | str b => obtain ⟨t, rfl⟩ := rx; exact SeqAt.EqAt.int_str a t' b t
    | _ => exact absurd (show false = true from fx) Bool.false_ne_true
  | str a =>
    obtain ⟨t', rfl⟩ := ry
    cases x with
    | non => cases rx; exact SeqAt.EqAt.str_none a t'
    | bl b => cases rx; exact SeqAt.EqAt.str_bool a t' b
    | int b => obtain ⟨t, rfl⟩ := rx; exact SeqAt.EqAt.str_int a t' b t
    | str b => obtain ⟨t, rfl⟩ := rx; exact SeqAt.EqAt.str_str a t' b t
    | _ => exact absurd (show false = true from fx) Bool.false_ne_true
  | _ => exact absurd (show false = true from fy) Bool.false_ne_true
/-- the items' answers, read off the values (a value's own answer does not lean on its token) -/
def eqU (x : V) (u : Value) : Bool := match u with
  | .none => eqV .non x
  | .bool b => eqV (.bl b) x
  | .int i _ => eqV (.int i) x
  | .str z _ => eqV (.str z) x
  | _ => false
theorem eqU_of {x y : V} {u : Value} (r : RelV y u) (f : flatV y = true) : eqU x u = eqV y x := by
  cases y with
  | non => cases r; rfl
  | bl b => cases r; rfl
  | int i => obtain ⟨t, rfl⟩ := r; rfl
  | str z => obtain ⟨t, rfl⟩ := r; rfl
  | _ => exact absurd (show false = true from f) Bool.false_ne_true
theorem any_eqU {x : V} : ∀ {xs : List V} {us : List Value}, Vals xs us → xs.all flatV = true → us.any (eqU x) = xs.any fun y => eqV y x
  | _, _, .nil, _ => rfl
  | y :: xs, u :: us, .cons r t, f => by
    rw [List.all_cons, Bool.and_eq_true] at f
    rw [List.any_cons, List.any_cons, eqU_of r f.1, any_eqU t f.2]
theorem mem_eqAt {A : Around} {s : Shared} {x : V} {v : Value} (rx : RelV x v) (fx : flatV x = true) : ∀ {xs : List V} {us : List Value}, Vals xs us → xs.all flatV = true → ∀ u ∈ us, SeqAt.EqAt A s u v (eqU x u)
  | _, _, .nil, _ => fun u hu => by cases hu
  | y :: xs, u :: us, .cons r t, f => fun u' hu => by
    rw [List.all_cons, Bool.and_eq_true] at f
    rcases List.mem_cons.mp hu with rfl | hu
    · rw [eqU_of r f.1]; exact eqAt_V r rx f.1 fx
    · exact mem_eqAt rx fx t f.2 u' hu
def inV (x : V) (xs : List V) : Bool := xs.any fun y => eqV y x
/-- x in a list or tuple of flat items -/
def rIn (K : PySem.W.Frag) (neg : Bool) : R2 := fun x y H Q => ∃ p xs, y = .ref p ∧ (SqL K H p xs ∨ SqT K H p xs) ∧ flatV x = true ∧ xs.all flatV = true ∧ Q (.bl (if neg then !inV x xs else inV x xs)) H
theorem op_notIn_seq : OpR X (compareOp .NotIn) (rIn X.K true) := by
  intro pins s σ H x y v u Q I rx ry h
  obtain ⟨p, xs, rfl, hq, fx, fs, q⟩ := h
  cases ry
  rcases hq with hq | hq
  · obtain ⟨its, r, pl, hz⟩ := I.list hq
    refine SeqAt.notIn_listAt (eqU x) pl.isList (fun w hw => mem_eqAt rx fx r fs w (by simpa using hw)) ⟨.bl _, H, I, rfl, ?_⟩
    rw [show its.toArray.any (eqU x) = its.any (eqU x) by simp, any_eqU r fs]
    exact q
  · obtain ⟨its, r, pl, hz⟩ := I.tuple hq
    refine SeqAt.notIn_tupleAt (eqU x) pl (fun w hw => mem_eqAt rx fx r fs w (by simpa using hw)) ⟨.bl _, H, I, rfl, ?_⟩
    rw [show its.toArray.any (eqU x) = its.any (eqU x) by simp, any_eqU r fs]
    exact q
/-! ### len, list(x), tuple(x) of any list or tuple that is read -/
theorem call_len_seq : CallR X (.builtin "len") (fun xs H Q => ∃ p ys, xs = [.ref p] ∧ (SqL X.K H p ys ∨ SqT X.K H p ys) ∧ Q (.int ys.length) H) := by
  intro pins s σ H xs us Q I r h
  obtain ⟨p, ys, rfl, hq, q⟩ := h
  obtain ⟨u, rfl, rx⟩ := vals1 r
  cases rx
  have hn := line63
  rcases hq with hq | hq
  · obtain ⟨its, r', pl, hz⟩ := I.list hq
    have hlen := r'.length
    exact Calls.call_len_list pl.isList (by simp only [List.size_toArray] <;> omega) ⟨.int ys.length, H, I.tok _, ⟨s.toks + 1, by rw [List.size_toArray, hlen]⟩, q⟩
  · obtain ⟨its, r', pl, hz⟩ := I.tuple hq
    have hlen := r'.length
    exact len_tuple pl (by simp only [List.size_toArray] <;> omega) ⟨.int ys.length, H, I.tok _, ⟨s.toks + 1, by rw [List.size_toArray, hlen]⟩, q⟩
theorem call_list_of : CallR X (.type "list") (fun xs H Q => ∃ p ys, xs = [.ref p] ∧ (SqL X.K H p ys ∨ SqT X.K H p ys) ∧ ∀ l, H l = none → Q (.ref l) (upd H l (.lst ys))) := by
  intro pins s σ H xs us Q I r h
  obtain ⟨p, ys, rfl, hq, q⟩ := h
  obtain ⟨u, rfl, rx⟩ := vals1 r
  cases rx
  have fin : ∀ (its : List Value), Vals ys its → ys.length ≤ sizeLine → ∀ (h' : Heap) (c' : Nat), (∀ b o', s.heap.get? b = some o' → h'.get? b = some o') →
      h'.get? s.heap.objs.size = some { cls := .type "list", dict := none, data := .seq its.toArray c', slots := #[] } → EP X pins σ Q (.ref s.heap.objs.size) { s with heap := h' } := fun its r' hz h' c' kp e =>
    ⟨.ref s.heap.objs.size, _, I.laid (t' := s.toks) kp (Nat.le_refl _) (show ObjOk X.prog X.w _ h' _ (.lst ys) from ⟨hz, its, c', r', e⟩), rfl, q _ (I.hok.fresh (Nat.le_refl _))⟩
  rcases hq with hq | hq
  · obtain ⟨its, r', pl, hz⟩ := I.list hq
    have hlen := r'.length
    obtain ⟨o, ho, hc, n, hd⟩ := pl.isList
    exact call_list_seq p (.inl rfl) ho hc hd (fun h' c' kp e => fin its r' hz h' c' kp e) (by simp only [List.size_toArray] <;> omega)
  · obtain ⟨its, r', pl, hz⟩ := I.tuple hq
    have hlen := r'.length
    obtain ⟨o, ho, hc, n, hd⟩ := pl
    exact call_list_seq p (.inr rfl) ho hc hd (fun h' c' kp e => fin its r' hz h' c' kp e) (by simp only [List.size_toArray] <;> omega)
/-! ### the call of a builtin's method: o.m(..) -/
/-- the value is of that builtin type -/
def tyV (K : PySem.W.Frag) (T : String) (x : V) (H : Hp) : Prop := match x with
  | .str _ => T = "str"
  | .int _ => T = "int"
  | .ref p => (T = "list" ∧ ∃ xs, SqL K H p xs) ∨ (T = "tuple" ∧ ∃ o, K.lookup p = some o ∧ o.cls = .type "tuple" ∧ o.dict = none) ∨
      (T = "dict" ∧ ((∃ kvs, H p = some (.dK kvs)) ∨ ∃ kvs, H p = some (.dT kvs))) ∨ (T = "set" ∧ ∃ S n, H p = some (.set S n))
  | _ => False
theorem tyV_is {pins : List (Addr × Obj)} {σ : St} {H : Hp} {s : Shared} {T : String} {x : V} {v : Value} (I : Inv X pins σ H s) (r : RelV x v) (ty : tyV X.K T x H) :
    s.TypeIs v T ∧ ∀ a, v = .ref a → ∃ ob, s.heap.get? a = some ob ∧ ob.dict = none := by
  cases x with
  | str z =>
    obtain ⟨t, rfl⟩ := r
    cases (show T = "str" from ty)
    exact ⟨typeIs_str s z t, fun _ e => nomatch e⟩
  | int i =>
    obtain ⟨t, rfl⟩ := r
    cases (show T = "int" from ty)
    exact ⟨typeIs_int s i t, fun _ e => nomatch e⟩
  | ref p =>
    cases r
    rcases ty with ⟨rfl, xs, hq⟩ | ⟨rfl, o, hk, hc, hd⟩ | ⟨rfl, hk⟩ | ⟨rfl, S, n, hk⟩
    · obtain ⟨its, _, pl, _⟩ := I.list hq
      refine ⟨pl.isList.typeIs, fun a e => ?_⟩
      cases e
      obtain ⟨o, n, e, c, hd, _⟩ := pl
      exact ⟨o, e, hd⟩
    · refine ⟨⟨o, I.kIn p o hk, hc⟩, fun a e => ?_⟩
      cases e
      exact ⟨o, I.kIn _ o hk, hd⟩
    · have z : ∃ o, s.heap.get? p = some o ∧ o.ExactDict := by
        rcases hk with ⟨kvs, hk⟩ | ⟨kvs, hk⟩
        · obtain ⟨_, _, _, _, o, _, _, e, ex, _⟩ := I.hok p _ hk
          exact ⟨o, e, ex⟩
        · obtain ⟨_, _, _, _, o, _, _, e, ex, _⟩ := I.hok p _ hk
          exact ⟨o, e, ex⟩
      obtain ⟨o, e, ex⟩ := z
      refine ⟨⟨o, e, ex.1⟩, fun a e2 => ?_⟩
      cases e2
      exact ⟨o, e, ex.2.1⟩
    · obtain ⟨o, _, _, _, e, ex, _⟩ := I.hok p _ hk
      refine ⟨⟨o, e, ex.1⟩, fun a e2 => ?_⟩
      cases e2
      exact ⟨o, e, ex.2.1⟩
  | _ => exact False.elim ty
def tBM0 (K : PySem.W.Frag) (T : String) (r : V → List V → Hp → VK → Prop) (to : TE) : TE := fun σ H Q => to σ H fun x H1 => tyV K T x H1 ∧ r x [] H1 Q
def tBM (K : PySem.W.Frag) (T : String) (r : V → List V → Hp → VK → Prop) (to : TE) (t : TA) : TE := fun σ H Q => to σ H fun x H1 => tyV K T x H1 ∧ t σ H1 fun xs H2 => r x xs H2 Q
variable {o e : Expr} {es : List Expr} {to : TE} {t : TA} {name : Str} {apos cpos : Pos} {T id : String} {r : V → List V → Hp → VK → Prop}
theorem pe_bm0 (pa : PlainAttrs T) (slot : Slot T name id) (hty : typeOf (.builtin id) = pure (.type "method_descriptor")) (hm : MtR X id r) (ho : PE X o to)
    (hbase : attributeBase o name X.env (eval o X.env) = eval o X.env := by rfl) (hline : (apos.endLine == cpos.line) = true := by rfl) : PE X (.Call (.Attribute o name apos) [] [] cpos) (tBM0 X.K T r to) := by
  intro pins s σ H Q I h
  refine wpAny_Call_method0_late hbase hline (thn (ho pins s σ H _ I h) fun v s1 ⟨x, H1, I1, r1, ty, q1⟩ => ?_)
  obtain ⟨h1, h2⟩ := tyV_is I1 r1 ty
  exact ⟨T, id, pa, slot, hty, h1, h2, Calls.callWith_builtin rfl (PySem.evalArgs_none (hm pins s1 σ H1 x [] v [] Q I1 r1 .nil q1))⟩
theorem pe_bm (pa : PlainAttrs T) (slot : Slot T name id) (hty : typeOf (.builtin id) = pure (.type "method_descriptor")) (hm : MtR X id r) (ho : PE X o to) (ha : PA X (e :: es) t)
    (hbase : attributeBase o name X.env (eval o X.env) = eval o X.env := by rfl)
    (hfew : ((backTo cpos (starEach (e :: es) X.env)).all (fun x => !x.1) && (backToKw cpos (keywordEach [] X.env)).all (fun x => x.1.isSome)
      && decide ((e :: es).length + ([] : List Keyword).length + (if ([] : List Keyword).isEmpty then 0 else 1) < 30)) = true := by rfl)
    (hline : (apos.endLine == cpos.line) = true := by rfl) (hs : starEach (e :: es) X.env = (false, eval e X.env) :: starEach es X.env := by rfl) (hplain : (backTo cpos (starEach es X.env)).any (·.1) = false := by rfl) :
    PE X (.Call (.Attribute o name apos) (e :: es) [] cpos) (tBM X.K T r to t) := by
  intro pins s σ H Q I h
  refine wpAny_Call_method_late hbase hfew hline rfl (thn (ho pins s σ H _ I h) fun v s1 ⟨x, H1, I1, r1, ty, q1⟩ => ?_)
  obtain ⟨h1, h2⟩ := tyV_is I1 r1 ty
  refine ⟨T, id, pa, slot, hty, h1, h2, ?_⟩
  have hA := ha cpos pins s1 σ H1 _ I1 q1
  rw [hs] at hA ⊢
  refine Calls.callWith_builtin (by show (false || (backTo cpos (starEach es X.env)).any (·.1)) = false; rw [hplain] <;> rfl) (Calls.evalArgs_plain ?_)
  exact thn hA fun us s2 ⟨vs, H2, I2, r2, q2⟩ => hm pins s2 σ H2 x vs v us Q I2 r1 r2 q2
/- xs.append(e), list.index on a module's tuple .. are MtR facts of 06m -/
end
end L2

namespace L2
open PySem PySem.Spec PyProof.Rows

def MtM (X : Cx) (id : String) (r : V → List V → Hp → VK → Prop) : Prop :=
  ∀ (pins : List (Addr × Obj)) (s : Shared) (σ : St) (H : Hp) (x : V) (xs : List V) (v : Value) (us : List Value) (Q : VK), Inv X pins σ H s → RelV x v → Vals xs us → r x xs H Q →
    wpAny (model X.prog X.w) X.A (call (.builtin id) (v :: us)) (EP X pins σ Q) X.xe s

/-! ### lists of values -/
theorem Vals.one : ∀ {x : V} {us : List Value}, Vals [x] us → ∃ u, us = [u] ∧ RelV x u
  | _, _, .cons r .nil => ⟨_, rfl, r⟩
theorem Vals.two : ∀ {x y : V} {us : List Value}, Vals [x, y] us → ∃ u v, us = [u, v] ∧ RelV x u ∧ RelV y v
  | _, _, _, .cons r (.cons q .nil) => ⟨_, _, rfl, r, q⟩
theorem Vals.zero : ∀ {us : List Value}, Vals [] us → us = []
  | _, .nil => rfl
theorem Vals.eraseIdx : ∀ {xs : List V} {us : List Value} (i : Nat), Vals xs us → Vals (xs.eraseIdx i) (us.eraseIdx i)
  | _, _, _, .nil => .nil
  | _, _, 0, .cons _ t => t
  | _, _, i + 1, .cons r t => .cons r (Vals.eraseIdx i t)
theorem len_erase {α : Type} : ∀ (l : List α) (i : Nat), (l.eraseIdx i).length ≤ l.length
  | [], _ => Nat.le_refl _
  | _ :: _, 0 => Nat.le_succ _
  | _ :: r, i + 1 => Nat.succ_le_succ (len_erase r i)
section
variable {X : Cx} {pins : List (Addr × Obj)} {σ : St} {H : Hp} {s : Shared} {l b : Addr} {xs ys zs : List V}

/-! ### the two steps: a tracked list is rewritten, a new list is laid -/
theorem Inv.lset {its its' : List Value} {n : Nat} {f : Array Value → Array Value} {t' : Nat} (I : Inv X pins σ H s) (hH : H l = some (.lst xs))
    (e : s.heap.get? l = some { cls := .type "list", data := .seq its.toArray n }) (hf : f its.toArray = its'.toArray) (hv : Vals ys its') (hz : ys.length ≤ sizeLine) :
    Inv X pins σ (upd H l (.lst ys)) { s with heap := s.heap.update l (Obj.mapSeq f), toks := t' } := by
  have q := PySem.IsL.update e f
  rw [hf] at q
  refine I.write (x := l) (e := l) (by rw [hH]; exact trivial) (.inl rfl) (fun b' u hb hu => (Heap.get?_update_other s.heap (Obj.mapSeq f) (Ne.symm hb)).trans hu) ⟨_, q⟩ ?_
  exact ⟨hz, its', _, hv, q⟩
theorem Inv.lnew {its : List Value} {t' : Nat} (I : Inv X pins σ H s) (hv : Vals ys its) (hz : ys.length ≤ sizeLine) :
    Inv X pins σ (upd H s.heap.objs.size (.lst ys)) { s with heap := s.heap.push { cls := .type "list", data := .seq its.toArray }, toks := t' } :=
  I.laid (fun _ _ q => Heap.get?_push_of_some _ q) (Nat.le_refl _) ⟨hz, its, 0, hv, Heap.get?_push_size _ rfl⟩
theorem Inv.fresh (I : Inv X pins σ H s) : H s.heap.objs.size = none := I.hok.fresh (Nat.le_refl _)
theorem Inv.lstM (I : Inv X pins σ H s) (hH : H l = some (.lst xs)) : xs.length ≤ sizeLine ∧ ∃ (its : List Value) (n : Nat), Vals xs its ∧ xs.length = its.length ∧ s.heap.get? l = some { cls := .type "list", data := .seq its.toArray n } := by
  obtain ⟨z, its, n, r, e⟩ := I.hok l _ hH
  exact ⟨z, its, n, r, r.length, e⟩

end

section
variable {X : Cx}

/-! ### methods -/
def rAppend : V → List V → Hp → VK → Prop := fun x vs H Q => ∃ l xs y, x = .ref l ∧ vs = [y] ∧ H l = some (.lst xs) ∧ xs.length < sizeLine ∧ Q .non (upd H l (.lst (xs ++ [y])))
theorem mt_append : MtM X "list.append" rAppend := by
  intro pins s σ H x vs v us Q I rx rv h
  obtain ⟨l, xs, y, rfl, rfl, hH, hz, q⟩ := h
  cases rx
  obtain ⟨u, rfl, ru⟩ := rv.one
  obtain ⟨z, its, n, r, hl, e⟩ := I.lstM hH
  refine call_meets F.slot_list_append ⟨_, e, rfl⟩ F.entry_list_append (F.args_list_append_2 _ _) (PySem.list_append l its.toArray n u (by rw [List.size_toArray]; omega)) ⟨e, ?_⟩
  refine ⟨.non, _, I.lset (its' := its ++ [u]) hH e (by simp) (r.append (.cons ru .nil)) ?_, rfl, q⟩
  rw [List.length_append, List.length_singleton]
  omega

def rExtend : V → List V → Hp → VK → Prop := fun x vs H Q => ∃ l b xs zs, x = .ref l ∧ vs = [.ref b] ∧ H l = some (.lst xs) ∧ H b = some (.lst zs) ∧ xs.length + zs.length ≤ sizeLine ∧ Q .non (upd H l (.lst (xs ++ zs)))
def rPop : V → List V → Hp → VK → Prop := fun x vs H Q => ∃ l xs y, x = .ref l ∧ vs = [] ∧ H l = some (.lst xs) ∧ xs[xs.length - 1]? = some y ∧ Q y (upd H l (.lst xs.dropLast))
def rPopAt : V → List V → Hp → VK → Prop := fun x vs H Q => ∃ l xs i k y, x = .ref l ∧ vs = [.int i] ∧ H l = some (.lst xs) ∧ -(2 ^ 63) ≤ i ∧ i < 2 ^ 63 ∧ seqIndex? i xs.length = some k ∧ xs[k]? = some y ∧ Q y (upd H l (.lst (xs.eraseIdx k)))
def rReverse : V → List V → Hp → VK → Prop := fun x vs H Q => ∃ l xs, x = .ref l ∧ vs = [] ∧ H l = some (.lst xs) ∧ Q .non (upd H l (.lst xs.reverse))
def rClear : V → List V → Hp → VK → Prop := fun x vs H Q => ∃ l xs, x = .ref l ∧ vs = [] ∧ H l = some (.lst xs) ∧ Q .non (upd H l (.lst []))
theorem mt_clear : MtM X "list.clear" rClear := by
  intro pins s σ H x vs v us Q I rx rv h
  obtain ⟨l, xs, rfl, rfl, hH, q⟩ := h
  cases rx
  have hus := rv.zero
  subst hus
  obtain ⟨z, its, n, r, hl, e⟩ := I.lstM hH
  refine call_meets F.slot_list_clear ⟨_, e, rfl⟩ F.entry_list_clear (F.args_list_clear_1 _) (AutoSeq1.list_clear_list_0 l its.toArray n (by rw [List.size_toArray]; omega)) ⟨e, ?_⟩
  exact ⟨.non, _, I.lset (its' := []) (ys := []) hH e rfl .nil (Nat.zero_le _), rfl, q⟩

/-! ### list + list, list += list, list * int -/
def rCat : R2 := fun x y H Q => ∃ l b xs zs, x = .ref l ∧ y = .ref b ∧ H l = some (.lst xs) ∧ H b = some (.lst zs) ∧ xs.length + zs.length ≤ sizeLine ∧ ∀ p, H p = none → Q (.ref p) (upd H p (.lst (xs ++ zs)))
theorem op_cat : OpR X (binaryOp .Add) rCat := by
  intro pins s σ H x y v u Q I rx ry h
  obtain ⟨l, b, xs, zs, rfl, rfl, hH, hB, hz, q⟩ := h
  cases rx
  cases ry
  obtain ⟨z, its, n, r, hl, e⟩ := I.lstM hH
  obtain ⟨z2, its2, n2, r2, hl2, e2⟩ := I.lstM hB
  refine PySem.P.add_list e e2 ?_ (by rw [List.size_toArray, List.size_toArray]; omega)
  have ea : its.toArray ++ its2.toArray = (its ++ its2).toArray := by simp
  rw [ea]
  exact ⟨.ref _, _, I.lnew (t' := s.toks) (r.append r2) (by rw [List.length_append]; omega), rfl, q _ I.fresh⟩
/-- a list times an int (a negative one is nothing) -/
def rRep : R2 := fun x y H Q => ∃ l k xs, x = .ref l ∧ y = .int k ∧ H l = some (.lst xs) ∧ -(2 ^ 63) ≤ k ∧ k < 2 ^ 63 ∧ xs.length * k.toNat ≤ sizeLine ∧
  ∀ p, H p = none → Q (.ref p) (upd H p (.lst (List.replicate k.toNat xs).flatten))
/-! ### del xs[i] -/
end

/-! ### xs[a:b] = ys -/
section
variable {prog : Program} {w : World} {A : Around} {E : Value → Shared → Prop} {s : Shared}
end

section
variable {X : Cx}
end
end L2

namespace Att
open PySem PySem.W PySem.Calls PyProof.Rows

/-! ### the script -/
theorem ints_of_wellAll {P : Params} {h : Heap} : ∀ (ns : List Int) (vs : List Value), WellAll P h vs (ns.map WData.int) → IntsAre vs ns := by
  intro ns
  induction ns with
  | nil =>
    intro vs w
    rw [List.map_nil] at w
    cases w
    exact .nil
  | cons n ns ih =>
    intro vs w
    rw [List.map_cons] at w
    cases w with
    | cons a b =>
      cases a
      exact .cons _ _ (ih _ b)

theorem script_of {l : OpenLaw} {n : Nat} (hn : l.most = some n) {P : Params} {h : Heap} {args : List WData} {vals : List Value}
    (hpre : l.row.toRowW.claim.pre args = true) (hwl : WellAll P h vals args) :
    ∃ a vs ns, vals = [Value.ref a] ∧ args = [WData.list (ns.map WData.int)] ∧ h.get? a = some { cls := .type "list", data := .seq vs.toArray } ∧ IntsAre vs ns ∧ ns.length ≤ n := by
  have hsh : WShape.hasAll [] args [.list .int] = true := (pre_splitW hpre).1
  have hc : l.pre.holds [] { args := args } = true := (pre_splitW hpre).2
  obtain ⟨d, r, rfl, h1, h2⟩ := hasAllW_cons hsh
  obtain rfl := hasAllW_nil h2
  obtain ⟨xs, rfl, h3⟩ := hasW_list h1
  obtain ⟨ns, rfl⟩ := items_int h3
  have hlen : ns.length ≤ n := by
    unfold OpenLaw.pre at hc
    have h4 : (WTm.not (.lt (.lit (.int (n : Int))) (.len (.arg 0)))).holds [] { args := [.list (ns.map .int)] } = true := by
      have h4 := (holds_andW hc).1
      rw [hn] at h4
      exact h4
    have h5 := condW_of h4 (w_not (w_lt w_lit (w_len_list (w_arg rfl))))
    rw [List.length_map] at h5
    refine Nat.le_of_not_lt fun q => ?_
    have q' : (n : Int) < ((ns.length : Nat) : Int) := by omega
    first
      | (rw [decide_eq_true q'] at h5; exact absurd h5 (by decide))
      | (simp at h5; omega)
  cases hwl with
  | cons w1 w2 =>
    cases w2
    cases w1 with
    | list ho hall => exact ⟨_, _, ns, rfl, rfl, ho, ints_of_wellAll ns _ hall, hlen⟩

theorem post_true (l : OpenLaw) (args : List WData) : l.row.toRowW.claim.post args (.bool true) args = true :=
  postW_of (r := l.row.toRowW) (X := (true == true))
    (show WShape.has [] (.bool true) .bool = true by first | rfl | decide | simp [WShape.has, WShape.arms, WShape.armsAll])
    (show (WTm.eq .res (.lit (.bool true))).value [] { args := args, res := some (.bool true), after := args } = some (.bool (true == true)) from w_eq_bool (w_res rfl) w_lit) rfl

/-! ### the attachment: holds_open's last premise (the goal 'hc' behind k_head) from a wpAny of the law's body -/
/-- the same from a codeAny of the CALL (for a layer whose function contracts speak of calls) -/
theorem attach_call {l : OpenLaw} {n : Nat} {q : Program} {loose : List Str} {XP : (Str → Option Value) → Heap → Prop} {YP : World → Heap → Prop} {d : DefRec}
    (hn : l.most = some n) (hdf : d.params.defaults = [])
    (call : ∀ (w : World) (s₀ s₁ : Shared) (mg mb : Str → Option Value) (fa : Addr) (o : Obj) (pm cd doc : Value) (a : Addr) (vs : List Value) (ns : List Int),
      Ground q loose [] XP w s₀ mg mb s₁.heap → YP w s₁.heap →
      s₁.heap.get? fa = some o → o.data = .func (docDef d.name d.params d.body d.scope pm cd doc) → s₁.heap.CodeRec cd d.name → mg d.name = some (.ref fa) →
      s₁.heap.get? a = some { cls := .type "list", data := .seq vs.toArray } → IntsAre vs ns → ns.length ≤ n → s₁.gens = #[] →
      codeAny (model l.prog w) callerA (.call (.ref fa) ⟨[.ref a], []⟩) (fun r s' => r = .ok (.ret (.bool true)) ∧ OldK s₁.heap s'.heap ∧ s'.os = s₁.os ∧ AllBare s'.gens) s₁) :
    WalkO q loose XP YP l.row.toRowW d [] (fun f vs => PySem.call f vs) := by
  intro w s₀ s₁ mg mb G Y fa o pm cd doc dV kV ho hd hcd hD hmg hg args vals as hpre hlay hrd hwl hlo
  obtain rfl : dV = .none := Dflts.none hD hdf
  obtain rfl : kV = .none := Dflts.noKw hD
  obtain ⟨a, vs, ns, rfl, rfl, hobj, hints, hlen⟩ := script_of hn hpre hwl
  refine enter_call (codeAny_mono (call w s₀ s₁ mg mb fa o pm cd doc a vs ns G Y ho (fd_plain hd) hcd hmg hobj hints hlen hg) fun r s' hq => ?_)
  obtain ⟨rfl, h2, h3, h4⟩ := hq
  exact ⟨.inl ⟨.bool true, .bool true, [], rfl, fun _ => rfl, .bool true, post_true l _, fun _ => ⟨List.Pairwise.nil, fun _ hm => (nomatch hm)⟩⟩, h2, h3, h4⟩

/-! ### rules over ANY heap (no ledger) from facts about the written part K: the library's own take a ledger (News) for what they write -/
section
variable {prog : Program} {w : World} {A : Around} {E : Value → Shared → Prop} {s : Shared} {K : Frag}

/-! the whole heap as the ledger: makes every rule that writes through a ledger a rule over any heap -/
def noObjs (h : Heap) : Heap := { h with objs := #[] }
def ledger (h : Heap) (L d : Addr) : List (Addr × Obj) := (List.range h.objs.size).filterMap fun a => if a = L ∨ a = d then none else (h.get? a).map fun o => (a, o)
end
end Att

namespace L2
open PySem PySem.Spec PyProof.Rows

theorem vals_ints : ∀ {vs : List Value} {ns : List Int}, IntsAre vs ns → Vals (ns.map V.int) vs
  | _, _, .nil => .nil
  | _, _, .cons n t h => .cons ⟨t, rfl⟩ (vals_ints h)

/-- nothing is tracked but the script, known to the object (or it is an object of the module) -/
def Only (H : Hp) : Prop := ∀ b, H b = none ∨ ∃ o xs, H b = some (.frz o (.lst xs))

/-- THE HEAD: the law's promise, at the heap behind the top. F, the promise of the law's def, may use that base is part of the heap (so K.In base, base.Ns mainGlobals mg stand in Mod) -/
theorem law_call {P : Program} {w : World} {K : PySem.W.Frag} {mg mb : Str → Option Value} {CX : CXT} {k : Nat} {fa a : Addr} {fd : FuncData} {x : Str} {sp : Sp} {s₁ : Shared} {vs : List Value} {ns : List Int}
    (KX : K.In s₁.heap) (hns : s₁.heap.Ns mainGlobals mg) (hb : s₁.heap.Ns builtinsNs mb) (hbb : ∀ x : Str, x ≠ "__name__" → mb x = bootBuiltins x) (hlim : s₁.heap.NoLimit) (hg : s₁.gens = #[])
    (ha : s₁.heap.get? a = some { cls := .type "list", data := .seq vs.toArray }) (hi : IntsAre vs ns) (hl : ns.length ≤ sizeLine) (hr : Room k callerA)
    (F : ∀ base : Heap, K.In base → base.Ns mainGlobals mg → FnOk P w K mg base CX k fa fd [x] sp) (hbind : ∀ (s : Shared) (u : Value), BindsTo s fd ⟨[u], []⟩ [(x, u)])
    (hsp : ∀ H : Hp, Only H → SqL K H a (ns.map V.int) → sp [.ref a] H (fun v _ => v = .bl true) fun _ _ _ => False)
    (hCX : ∀ H e s', CX [] H s₁ (fun _ _ _ => False) e s' → False) :
    codeAny (model P w) callerA (.call (.ref fa) ⟨[.ref a], []⟩) (fun r s' => r = .ok (.ret (.bool true)) ∧ OldK s₁.heap s'.heap ∧ s'.os = s₁.os ∧ AllBare s'.gens) s₁ := by
  have rv := vals_ints hi
  have lenV := hi.length
  -- from an abstract heap in which nothing but the script may be tracked
  have core : ∀ H : Hp, Only H → SqL K H a (ns.map V.int) → HOk P w H s₁.heap → (∀ b, H b ≠ none → b = a) → (H a ≠ none → K.lookup a = none) →
      codeAny (model P w) callerA (.call (.ref fa) ⟨[.ref a], []⟩) (fun r s' => r = .ok (.ret (.bool true)) ∧ OldK s₁.heap s'.heap ∧ s'.os = s₁.os ∧ AllBare s'.gens) s₁ := by
    intro H hO hS hok hA hK
    have base_of : ∀ {b : Addr} {o : Obj}, s₁.heap.get? b = some o → H b = none → (hidT s₁.heap H).get? b = some o := fun e n => hidT_get e n
    have noA : ∀ {b : Addr} {o : Obj} {es : Array DictEntry} {ep : Nat}, s₁.heap.get? b = some o → o.data = .dict es ep → H b = none := fun {b o es ep} e d => by
      cases q : H b with
      | none => rfl
      | some u =>
        have e' : b = a := hA b (by rw [q]; simp)
        subst e'
        rw [ha] at e; cases e
        have d' : Data.seq vs.toArray _ = Data.dict es ep := d
        cases d'
    have nsK : ∀ {b : Addr} {m : Str → Option Value}, s₁.heap.Ns b m → (hidT s₁.heap H).Ns b m := fun {b m} ⟨o, es, ep, e, d, r⟩ => ⟨o, es, ep, base_of e (noA e d), d, r⟩
    have hKb : K.In (hidT s₁.heap H) := fun b o e => base_of (KX b o e) (by
      cases q : H b with
      | none => rfl
      | some u =>
        have e' : b = a := hA b (by rw [q]; simp)
        subst e'
        rw [hK (by rw [q]; simp)] at e; cases e)
    have hM : Mod K mg (hidT s₁.heap H) := ⟨hKb, nsK hns, ⟨mb, nsK hb, hbb⟩, let ⟨mc, h1, h2⟩ := hlim; ⟨mc, nsK h1, h2⟩⟩
    have e0 : Env0 P w K mg (hidT s₁.heap H) callerA [] s₁ H := ⟨rfl, hM, fun b o e => of_hidT e, Nat.le_of_eq (hidT_size _ _), trivial, fun b hb => absurd (show b ∈ ([] : List Addr) from hb) (by simp), hok, .of_eq hg⟩
    refine codeAny_mono ((F _ hKb (nsK hns)).run callerA [] s₁ H ⟨[.ref a], []⟩ [.ref a] [.ref a] _ _ hr e0 (hbind s₁ (.ref a)) (.cons rfl .nil) (hsp H hO hS)) fun r s' h => ?_
    cases r with
    | error e => exact (hCX H e s' h).elim
    | ok fl =>
      cases fl with
      | next => exact False.elim h
      | brk => exact False.elim h
      | cont => exact False.elim h
      | ret u =>
        obtain ⟨v, H', os, bare, un, hok', r', q⟩ := h
        have q' : v = .bl true := q
        subst q'
        obtain rfl : u = Value.bool true := r'
        refine ⟨rfl, OldK.of_keep fun b o e => ?_, os, bare⟩
        cases q : H b with
        | none => exact un.keep b o e q (by intro z; exact absurd (show b ∈ ([] : List Addr) from z) (by simp)) (by simp)
        | some u =>
          rcases hO b with z | ⟨ob, xs, z⟩
          · rw [q] at z; cases z
          · have z2 := un.frzs b ob _ z
            obtain ⟨e1, _⟩ := hok b _ z
            obtain ⟨e2, _⟩ := hok' b _ z2
            rw [e] at e1; cases e1
            exact e2
  cases hk : K.lookup a with
  | some o =>
    -- the script is one of the module's own objects
    have e := KX a o hk
    rw [ha] at e
    cases e
    refine core (fun _ => none) (fun _ => .inl rfl) (.inr ⟨_, vs.toArray, _, hk, rfl, rfl, rfl, by rw [List.size_toArray, lenV]; exact hl, by simpa using rv⟩) (fun b u z => by have z' : (none : Option HO) = some u := z; cases z') (fun b z => absurd rfl z) fun z => absurd rfl z
  | none =>
    refine core (fun b => if b = a then some (.frz { cls := .type "list", data := .seq vs.toArray } (.lst (ns.map V.int))) else none) (fun b => ?_) (.inl (.inr ⟨{ cls := .type "list", data := .seq vs.toArray }, if_pos rfl⟩)) (fun b u z => ?_) (fun b z => ?_) fun _ => hk
    · by_cases hb : b = a
      · exact .inr ⟨_, _, if_pos hb⟩
      · exact .inl (if_neg hb)
    · by_cases hb : b = a
      · have z' := (if_pos hb).symm.trans z
        cases z'
        subst hb
        exact ⟨ha, by rw [List.length_map]; exact hl, vs, _, rv, ha⟩
      · have z' := (if_neg hb).symm.trans z
        cases z'
    · by_cases hb : b = a
      · exact hb
      · exact absurd (if_neg hb) z
end L2

namespace L2
open PySem PySem.Spec PyProof.Rows

abbrev KOf {K : PySem.W.Frag} {h : Heap} (_ : K.In h) : PySem.W.Frag := K

/-- the goal that k_head leaves (case hc), from the law's promise. F gives the function object fd (K's own) once, then the promise over every base -/
theorem walk_of {l : PySem.W.OpenLaw} {n k : Nat} {q : Program} {loose : List Str} {XP : (Str → Option Value) → Heap → Prop} {YP : World → Heap → Prop} {d : DefRec} {K : Params → PySem.W.Frag} {CX : World → CXT} {sp : World → Sp} {x : Str}
    (hn : l.most = some n) (hn2 : n ≤ sizeLine) (hdf : d.params.defaults = []) (hr : Room k callerA)
    (hY : ∀ (w : World) (h : Heap), YP w h → (K w.params).In h)
    (F : ∀ (w : World) (mg : Str → Option Value) (fa : Addr) (h : Heap), (K w.params).In h → h.Ns mainGlobals mg → mg d.name = some (.ref fa) →
      ∃ fd : FuncData, (∀ (s : Shared) (u : Value), BindsTo s fd ⟨[u], []⟩ [(x, u)]) ∧
        ∀ base : Heap, (K w.params).In base → base.Ns mainGlobals mg → FnOk l.prog w (K w.params) mg base (CX w) k fa fd [x] (sp w))
    (hsp : ∀ (w : World) (H : Hp) (a : Addr) (ns : List Int), ns.length ≤ n → Only H → SqL (K w.params) H a (ns.map V.int) → sp w [.ref a] H (fun v _ => v = .bl true) fun _ _ _ => False)
    (hCX : ∀ (w : World) (H : Hp) (s : Shared) (e : Value) (s' : Shared), CX w [] H s (fun _ _ _ => False) e s' → False) :
    PySem.W.WalkO q loose XP YP l.row.toRowW d [] (fun f vs => PySem.call f vs) := by
  refine Att.attach_call hn hdf fun w s₀ s₁ mg mb fa o pm cd doc a vs ns G Y ho hd hcd hmg hobj hints hlen hg => ?_
  have KX := hY w _ Y
  obtain ⟨fd, hb, hF⟩ := F w mg fa _ KX G.T.g hmg
  exact law_call KX G.T.g G.T.b G.T.builtins G.T.nolimit hg hobj hints (Nat.le_trans hlen hn2) hr hF hb (fun H hO hS => hsp w H a ns hlen hO hS) fun H e s' => hCX w H s₁ e s'
end L2


/-! SHORT WORDS over the layer: a def of the text, its body, what a loop and a test want. -/
namespace L2
open PySem PySem.Spec PyProof.Rows

/-! ### the text by places -/
/-- the j-th statement of a class's body -/
def inClass (s : Stmt) (j : Nat) : Stmt := match s with
  | .ClassDef _ _ _ body _ _ _ _ _ _ _ => body.getD j (.Pass ⟨0, 0, 0, 0⟩)
  | _ => .Pass ⟨0, 0, 0, 0⟩
def defArgs (s : Stmt) : Arguments := match s with
  | .FunctionDef _ a _ _ _ _ _ _ _ _ => a
  | _ => { posonlyargs := [], args := [], vararg := none, kwonlyargs := [], kw_defaults := [], kwarg := none, defaults := [] }
def defBody (s : Stmt) : List Stmt := match s with
  | .FunctionDef _ _ b _ _ _ _ _ _ _ => b
  | _ => []
def defScope (s : Stmt) : Scope := match s with
  | .FunctionDef _ _ _ _ _ _ sc _ _ _ => sc
  | _ => { kind := .function, names := [], isGenerator := false, isCoroutine := false }

/-! ### no exception leaves a def -/
abbrev CX0 : CXT := fun _ _ _ _ _ _ => False
abbrev E0 : XK := fun _ _ _ => False
theorem pass0 {X : Cx} : Passes CX0 X E0 := fun _ _ _ _ _ _ _ h => h.elim

/-! ### a def (or method) of the text as it stands behind the top -/
structure Fun (K : PySem.W.Frag) (x qual : Str) (st : Stmt) (f : Addr) (fd : FuncData) : Prop where
  ex : ∃ (oc : Value) (od : Option Addr) (kV doc pm : Value) (an : Option Addr) (cdv ct : Value) (osl : Array (Option Value)),
    fd = PySem.W.fnOf x qual (defArgs st) (defBody st) (defScope st) .none kV doc pm an cdv ct ∧ K.lookup f = some ⟨oc, od, .func fd, osl⟩ ∧ PySem.W.codeIn K cdv qual = true
  kp : PySem.W.keepIn K (.ref f) = true
section
variable {P : Program} {w : World} {K : PySem.W.Frag} {mg : Str → Option Value} {base : Heap}
/-- THE RULE for a def: its body as a term of rules, and the reading of that term -/
theorem Fun.ok {x qual : Str} {st : Stmt} {f : Addr} {fd : FuncData} {N ps : List Str} {k : Nat} {sp : Sp} (F : Fun K x qual st f fd) (S : FnScope N ps (defScope st)) (len : ∀ vs H Q E, sp vs H Q E → vs.length = ps.length)
    (hbody : ∀ (cdv : Value) (A : Around) (outer : List Env) (s : Shared) (H : Hp) (vs : List V) (Q : VK) (E : XK), Room k (A.deeper (envOfC qual (defScope st) s.heap.objs.size f cdv)) → sp vs H Q E →
      ∃ t, PSs (cxOf CX0 P w K mg base N qual (defScope st) f cdv A outer s H E).nox (defBody st) t ∧ t { nx := fun _ H' => Q .non H', rt := Q } (start N vs) H) : FnOk P w K mg base CX0 (k + 1) f fd ps sp := by
  obtain ⟨oc, od, kV, doc, pm, an, cdv, ct, osl, rfl, lk, hcd⟩ := F.ex
  refine fn_of lk hcd S len fun A outer s H vs Q E hr hsp => ?_
  obtain ⟨t, h, q⟩ := hbody cdv A outer s H vs Q E hr hsp
  exact ⟨t, h.nox, q⟩
/-- how its arguments bind (no defaults): h is «fun _ _ _ _ _ _ us hl => match us, hl with | [_, _], _ => rfl», one _ a parameter -/
theorem Fun.binds {x qual : Str} {st : Stmt} {f : Addr} {fd : FuncData} {ps : List Str} (F : Fun K x qual st f fd)
    (h : ∀ (kV doc pm : Value) (an : Option Addr) (cdv ct : Value) (us : List Value), us.length = ps.length → bindArgs (PySem.W.fnOf x qual (defArgs st) (defBody st) (defScope st) .none kV doc pm an cdv ct) ⟨us, []⟩ = pure (ps.zip us)) : Binds K fd ps [] := by
  obtain ⟨oc, od, kV, doc, pm, an, cdv, ct, osl, rfl, lk, hcd⟩ := F.ex
  exact .all (h kV doc pm an cdv ct)
theorem fun_mk {x qual : Str} {st : Stmt} {f : Addr} {oc : Value} {od an : Option Addr} {osl : Array (Option Value)} {kV doc pm cdv ct : Value} (l : K.lookup f = some ⟨oc, od, .func (PySem.W.fnOf x qual (defArgs st) (defBody st) (defScope st) .none kV doc pm an cdv ct), osl⟩)
    (c : PySem.W.codeIn K cdv qual = true) (k : PySem.W.keepIn K (.ref f) = true) : Fun K x qual st f (PySem.W.fnOf x qual (defArgs st) (defBody st) (defScope st) .none kV doc pm an cdv ct) := ⟨⟨oc, od, kV, doc, pm, an, cdv, ct, osl, rfl, l, c⟩, k⟩
end
theorem hu_of {A : Around} {k : Nat} (hr : Room k A) : A.units + 1 < cLine := Nat.lt_of_le_of_lt (Nat.add_le_add_left (by decide : 1 ≤ 64) _) hr.units
theorem small1000 {n : Nat} (h : n ≤ 1000) : n < sizeLine := Nat.lt_of_le_of_lt h (by decide)

/-! ### expressions in short: the name that stands in the i-th slot -/
section
variable {X : Cx}
theorem pv (i : Nat) {x : Str} {pos : Pos} (hN : X.N[i]? = some x := by rfl) (hv : Vis X.env.scope x := by first | exact Or.inl rfl | exact Or.inr (Or.inl rfl) | exact Or.inr (Or.inr rfl)) (hd : (x == ("__debug__" : Str)) = false := by decide)
    (hcd : (x == ("__classdict__" : Str)) = false := by decide) : PE X (.Name x pos) (tVar i) := pe_var hN hv hd hcd
end

/-! ### tests -/
theorem iteF {A B : Prop} (h : B) : if false = true then A else B := by
  rw [if_neg Bool.false_ne_true]
  exact h
theorem iteT {A B : Prop} (h : A) : if true = true then A else B := by
  rw [if_pos rfl]
  exact h
theorem ite2 {c A B : Prop} [Decidable c] (h1 : c → A) (h2 : ¬ c → B) : if c then A else B := by
  by_cases h : c
  · rw [if_pos h]
    exact h1 h
  · rw [if_neg h]
    exact h2 h
theorem iteNS {c A B : Prop} [Decidable c] (hc : c) (h : B) : if (!decide c) = true then A else B := by
  rw [decide_eq_true hc]
  exact iteF h

/-! ### heaps -/
/-- all that was tracked is as it was -/
def Same (H H' : Hp) : Prop := ∀ b o, H b = some o → H' b = some o
theorem Same.refl (H : Hp) : Same H H := fun _ _ h => h
theorem Same.trans {H H1 H2 : Hp} (a : Same H H1) (b : Same H1 H2) : Same H H2 := fun c o h => b c o (a c o h)
theorem Same.free {H H' : Hp} (e : Same H H') {l : Addr} (h : H' l = Option.none) : H l = Option.none := by
  cases q : H l with
  | none => rfl
  | some o =>
    rw [e l o q] at h
    cases h
theorem Same.seq {K : PySem.W.Frag} {H H' : Hp} {a : Addr} {xs : List V} (e : Same H H') (h : SqL K H a xs) : SqL K H' a xs := by
  rcases h with (h | ⟨o, h⟩) | h
  · exact .inl (.inl (e _ _ h))
  · exact .inl (.inr ⟨o, e _ _ h⟩)
  · exact .inr h

end L2
end
section
set_option maxRecDepth 100000
namespace HW
open PySem
/-! a table of a set whose slots rise; the binary search over it -/
abbrev Up (l : List Nat) : Prop := l.Pairwise (· < ·)
/-- what the search finds: all ahead are less, none behind is -/
def Cut (l : List Nat) (j p : Nat) : Prop := p ≤ l.length ∧ (∀ i x, l[i]? = some x → i < p → x < j) ∧ (∀ i x, l[i]? = some x → p ≤ i → j ≤ x)
structure Sound (led : Bool) (t : SetTable) : Prop where
  up : Up t.place.toList
  led : t.led = led
end HW
end
section
set_option maxRecDepth 100000
namespace HW
open PySem 
/-- is the order of a set's members taken from the world's own text -/
abbrev byText (w : World) : Bool := w.params.followText "set-order"
def intOf : Value → Int
  | .int i _ => i
  | _ => 0
/-- a set of ints with a sound table; ms: its members, in the table's order -/
structure SetIs (P : Program) (w : World) (o : Obj) (es : Array (Int × Value)) (ep : Nat) (t : SetTable) (ms : List Int) : Prop where
  ex : o.ExactSet
  dat : o.data = .set es ep t
  el : ElemsOf (intKind P w) es.toList
  are : ms = es.toList.map fun e => intOf e.2
  nd : ms.Nodup
  few : es.size < scanBound
  fits : t.fits es.size = true
  snd : Sound (!byText w) t
def SetG (P : Program) (w : World) (h : Heap) (a : Addr) (ms : List Int) : Prop := ∃ o es ep t, h.get? a = some o ∧ SetIs P w o es ep t ms
section
variable {P : Program} {w : World} {A : Around} {E : Value → Shared → Prop} {s : Shared} {a : Addr} {ms : List Int}
end
end HW
end
section
set_option maxRecDepth 100000
namespace HW
open PySem
/-! the orders in which a set is told -/
section
variable {M : Model} {A : Around} {E : Value → Shared → Prop}
end
section
variable {P : Program} {w : World} {A : Around} {E : Value → Shared → Prop} {s : Shared} {a : Addr} {ms : List Int} {o : Obj} {es : Array (Int × Value)} {ep : Nat} {t : SetTable}
/-- in what order they come where nothing is drawn, and the slot that the iterator bears at turn i -/
def seqOf (w : World) (a : Addr) (es : Array (Int × Value)) (ep : Nat) : Array (Int × Value) := if byText w then pickOrder (w.params.setOrder a ep) es else es
def slotOf (w : World) (t : SetTable) (i : Nat) : Nat := if byText w then 0 else match i with
  | 0 => 0
  | i + 1 => t.place.getD i 0 + 1
end
end HW
end
section
set_option maxRecDepth 100000
namespace HW
open PySem
section
variable {P : Program} {w : World} {A : Around} {E : Value → Shared → Prop} {s : Shared} {a : Addr} {ms : List Int} {o : Obj} {es : Array (Int × Value)} {ep : Nat} {t : SetTable}
def sitObj (first : Value) (i : Nat) (a : Addr) (n ep : Nat) : Obj := { cls := .type "set_iterator", data := .fields #[first, .int i 0, .ref a, .int n 0, .int ep 0] }
end
end HW
end
section
set_option maxRecDepth 100000
namespace HW
open PySem
section
variable {P : Program} {w : World} {A : Around} {E : Value → Shared → Prop} {s : Shared} {a : Addr} {ms : List Int} {o : Obj} {es : Array (Int × Value)} {ep : Nat} {t : SetTable}
def secs (l : List (Int × Value)) : List Value := l.map (·.2)
end
end HW
end
section
set_option maxRecDepth 100000
namespace HW
open PySem PyProof.Rows
section
variable {P : Program} {w : World} {A : Around} {E : Value → Shared → Prop} {s : Shared} {a : Addr} {ms : List Int}
end
end HW
end
section
set_option maxRecDepth 100000
namespace HW
open PySem PySem.Spec PyProof.Rows
section
variable {P : Program} {w : World} {A : Around} {R : Result → Shared → Prop} {I : Addr} {fp wr : List Addr} {G : Array GenState → Array GenState → Prop} {n : Nat} {Pv : Nat → Value → Prop} {St : Nat → Shared → Prop}
end
section
variable {P : Program} {w : World} {A : Around} {E : Value → Shared → Prop} {s : Shared}
abbrev freshSet (w : World) : Obj := { cls := .type "set", dict := none, data := .set #[] 0 (.fresh 0 0 (!byText w)) }
end
end HW
end
section
set_option Elab.async false
set_option linter.all false
set_option maxRecDepth 100000
namespace HW
open PySem PySem.Spec PyProof.Rows L2
abbrev St := L2.St
/-! ### the state's draws don't matter -/
/-- a set of ints, tracked -/
def SetO (P : Program) (w : World) (a : Addr) (ms : List Int) : HO := .ext fun h => SetG P w h a ms
section
variable {X : Cx}
/-! ### == and != of lists and tuples of ints -/
theorem int_items {ns : List Int} {its : List Value} (r : Vals (ns.map V.int) its) {A : Around} {s : Shared} {ms : List Int} {its2 : List Value} (r2 : Vals (ms.map V.int) its2) :
    ∀ j (h1 : j < its.toArray.size) (h2 : j < its2.toArray.size), SeqAt.EqAt A s its.toArray[j] its2.toArray[j] (decide (ns[j]? = ms[j]?)) := by
  intro j h1 h2
  have l1 := r.length
  have l2 := r2.length
  rw [List.length_map] at l1 l2
  rw [List.size_toArray] at h1 h2
  have g1 : (ns.map V.int)[j]? = some (.int (ns[j]'(by omega))) := by rw [List.getElem?_map, List.getElem?_eq_getElem (by omega)]; rfl
  have g2 : (ms.map V.int)[j]? = some (.int (ms[j]'(by omega))) := by rw [List.getElem?_map, List.getElem?_eq_getElem (by omega)]; rfl
  obtain ⟨u, hu, t, e1⟩ := r.get g1
  obtain ⟨u2, hu2, t2, e2⟩ := r2.get g2
  have e3 : its.toArray[j] = Value.int (ns[j]'(by omega)) t := by
    rw [List.getElem_toArray]
    rw [List.getElem?_eq_getElem h1] at hu
    exact (Option.some.inj hu).trans e1
  have e4 : its2.toArray[j] = Value.int (ms[j]'(by omega)) t2 := by
    rw [List.getElem_toArray]
    rw [List.getElem?_eq_getElem h2] at hu2
    exact (Option.some.inj hu2).trans e2
  rw [e3, e4]
  have e5 : decide (ns[j]? = ms[j]?) = ((ns[j]'(by omega)) == (ms[j]'(by omega))) := by
    rw [List.getElem?_eq_getElem (by omega), List.getElem?_eq_getElem (by omega)]
    by_cases c : (ns[j]'(by omega)) = (ms[j]'(by omega))
    · simp [c]
    · simp [c]
  rw [e5]
  exact SeqAt.EqAt.int_int _ _ _ _
theorem all_range {ns ms : List Int} (h : ns.length = ms.length) : ((List.range ns.length).all fun j => decide (ns[j]? = ms[j]?)) = decide (ns = ms) := by
  rw [Bool.eq_iff_iff, List.all_eq_true, decide_eq_true_iff]
  constructor
  · intro q
    refine List.ext_getElem? fun j => ?_
    rcases Nat.lt_or_ge j ns.length with c | c
    · exact of_decide_eq_true (q j (List.mem_range.mpr c))
    · rw [List.getElem?_eq_none c, List.getElem?_eq_none (by omega)]
  · rintro rfl j _
    exact decide_eq_true rfl
def rEqL (K : PySem.W.Frag) (neg : Bool) : R2 := fun x y H Q => ∃ (a b : Addr) (ns ms : List Int), x = .ref a ∧ y = .ref b ∧ SqL K H a (ns.map V.int) ∧ SqL K H b (ms.map V.int) ∧ Q (.bl (if neg then !decide (ns = ms) else decide (ns = ms))) H
/-! ### tuples of ints -/
theorem all_min {ns ms : List Int} : ((List.range (min ns.length ms.length)).all (fun j => decide (ns[j]? = ms[j]?)) && ns.length == ms.length) = decide (ns = ms) := by
  by_cases c : ns.length = ms.length
  · rw [← c, Nat.min_self, all_range c]
    simp
  · rw [decide_eq_false fun z => c (by rw [z])]
    simp [c]
theorem rc_tups {A : Around} {s : Shared} {a b : Addr} {its its2 : List Value} {ns ms : List Int} (ha : s.heap.IsTuple a its.toArray) (hb : s.heap.IsTuple b its2.toArray) (r : Vals (ns.map V.int) its) (r2 : Vals (ms.map V.int) its2) (hu : A.units < cLine) :
    SeqAt.RcAt A s (.ref a) (.ref b) (decide (ns = ms)) := by
  have l1 := r.length
  have l2 := r2.length
  rw [List.length_map] at l1 l2
  have q := SeqAt.RcAt.tuples ha hb hu (int_items (A := A.in1) (s := s) r r2)
  rw [List.size_toArray, List.size_toArray, ← l1, ← l2, all_min] at q
  exact q
theorem eqAt_tups {A : Around} {s : Shared} {a b : Addr} {its its2 : List Value} {ns ms : List Int} (ha : s.heap.IsTuple a its.toArray) (hb : s.heap.IsTuple b its2.toArray) (r : Vals (ns.map V.int) its) (r2 : Vals (ms.map V.int) its2) (hu : A.units < cLine) :
    SeqAt.EqAt A s (.ref a) (.ref b) (decide (ns = ms)) := by
  by_cases c : a = b
  · subst c
    have e : its = its2 := by
      obtain ⟨o, h1, _, n, d⟩ := ha
      obtain ⟨o', h2, _, n', d'⟩ := hb
      rw [h1] at h2
      cases h2
      rw [d] at d'
      injection d' with d1 _
      simpa using congrArg Array.toList d1
    subst e
    have e2 : ns.map V.int = ms.map V.int := r.inj r2
    have e3 : ns = ms := by
      have inj : ∀ x y : Int, V.int x = V.int y → x = y := fun x y z => by injection z
      exact (List.map_inj_right inj).mp e2
    rw [decide_eq_true e3]
    exact SeqAt.EqAt.same _
  · exact SeqAt.EqAt.of_refs c (rc_tups ha hb r r2 hu)
def rEqT (K : PySem.W.Frag) (neg : Bool) : R2 := fun x y H Q => ∃ (a b : Addr) (ns ms : List Int), x = .ref a ∧ y = .ref b ∧ SqT K H a (ns.map V.int) ∧ SqT K H b (ms.map V.int) ∧ Q (.bl (if neg then !decide (ns = ms) else decide (ns = ms))) H
theorem op_neT (hu : X.A.units < cLine) : OpR X (compareOp .NotEq) (rEqT X.K true) := by
  intro pins s σ H x y v u Q I rx ry h
  obtain ⟨a, b, ns, ms, rfl, rfl, ha, hb, q⟩ := h
  cases rx
  cases ry
  obtain ⟨its, r, pl, _⟩ := I.tuple ha
  obtain ⟨its2, r2, pl2, _⟩ := I.tuple hb
  have l1 := r.length
  have l2 := r2.length
  rw [List.length_map] at l1 l2
  refine SeqAt.RcNeAt.tuples pl pl2 hu (int_items r r2) _ _ _ _ ⟨.bl _, H, I, rfl, ?_⟩
  rw [List.size_toArray, List.size_toArray, ← l1, ← l2, all_min]
  exact q
/-! ### a list of pairs of ints -/
def PairAt (H : Hp) (v : V) (p : Int × Int) : Prop := ∃ a, v = .ref a ∧ H a = some (.tup [.int p.1, .int p.2])
abbrev Prs (H : Hp) : List V → List (Int × Int) → Prop := Paired (PairAt H)
theorem pair_mem {A : Around} {pins : List (Addr × Obj)} {σ : St} {H : Hp} {s : Shared} (I : Inv X pins σ H s) {b : Addr} {p : Int × Int} (hb : H b = some (.tup [.int p.1, .int p.2])) (hu : A.units < cLine) :
    ∀ {xs : List V} {ps : List (Int × Int)} {us : List Value}, Prs H xs ps → Vals xs us → ∃ f : Value → Bool, (∀ u ∈ us, SeqAt.EqAt A s u (.ref b) (f u)) ∧ us.any f = decide (p ∈ ps) := by
  classical
  obtain ⟨its2, r2, pl2, _⟩ := I.tuple (xs := [.int p.1, .int p.2]) (SqT.of hb)
  have r2' : Vals ([p.1, p.2].map V.int) its2 := r2
  intro xs ps us hp hv
  refine ⟨fun u => decide (∃ (a : Addr) (q : Int × Int), u = .ref a ∧ H a = some (.tup [.int q.1, .int q.2]) ∧ q = p), ?_, ?_⟩
  · intro u hu'
    obtain ⟨i, hi⟩ := List.mem_iff_getElem?.mp hu'
    have key : ∃ (a : Addr) (q : Int × Int), u = .ref a ∧ H a = some (.tup [.int q.1, .int q.2]) := by
      clear hu'
      induction hp generalizing us i with
      | nil => cases hv; simp at hi
      | cons h t ih =>
        cases hv with
        | cons rv rt =>
          cases i with
          | zero =>
            obtain ⟨a, e, ha⟩ := h
            subst e
            cases rv
            have e' : Value.ref a = u := by simpa using hi
            exact ⟨a, _, e'.symm, ha⟩
          | succ i => exact ih rt i (by simpa using hi)
    obtain ⟨a, q, rfl, ha⟩ := key
    obtain ⟨its, r, pl, _⟩ := I.tuple (SqT.of ha)
    have r' : Vals ([q.1, q.2].map V.int) its := r
    have z := eqAt_tups (A := A) pl pl2 r' r2' hu
    have e : decide (∃ (a' : Addr) (q' : Int × Int), Value.ref a = .ref a' ∧ H a' = some (.tup [.int q'.1, .int q'.2]) ∧ q' = p) = decide ([q.1, q.2] = [p.1, p.2]) := by
      rw [decide_eq_decide]
      constructor
      · rintro ⟨a', q', e1, h1, e2⟩
        injection e1 with e1
        subst e1
        have q3 := Option.some.inj (ha.symm.trans h1)
        simp only [HO.tup.injEq, List.cons.injEq, V.int.injEq, and_true] at q3
        rw [q3.1, q3.2, e2]
      · intro e1
        simp only [List.cons.injEq, and_true] at e1
        exact ⟨a, q, rfl, ha, Prod.ext e1.1 e1.2⟩
    dsimp only
    rw [e]
    exact z
  · induction hp generalizing us with
    | nil => cases hv; simp
    | @cons v q l l2 h t ih =>
      cases hv with
      | @cons _ u _ us' rv rt =>
        obtain ⟨a, e, ha⟩ := h
        subst e
        cases rv
        rw [List.any_cons, ih rt]
        have e1 : decide (∃ (a' : Addr) (q' : Int × Int), Value.ref a = .ref a' ∧ H a' = some (.tup [.int q'.1, .int q'.2]) ∧ q' = p) = decide (p = q) := by
          rw [decide_eq_decide]
          constructor
          · rintro ⟨a', q', e1, h1, e2⟩
            injection e1 with e1
            subst e1
            have q3 := Option.some.inj (ha.symm.trans h1)
            simp only [HO.tup.injEq, List.cons.injEq, V.int.injEq, and_true] at q3
            rw [← e2]
            exact (Prod.ext q3.1 q3.2).symm
          · rintro rfl
            exact ⟨a, p, rfl, ha, rfl⟩
        rw [e1, ← Bool.decide_or, decide_eq_decide, List.mem_cons]
def rInP (K : PySem.W.Frag) (neg : Bool) : R2 := fun x y H Q => ∃ (b l : Addr) (p : Int × Int) (xs : List V) (ps : List (Int × Int)), x = .ref b ∧ y = .ref l ∧ H b = some (.tup [.int p.1, .int p.2]) ∧ SqL K H l xs ∧ Prs H xs ps ∧ Q (.bl (if neg then !decide (p ∈ ps) else decide (p ∈ ps))) H
theorem op_inP (hu : X.A.units + 1 < cLine) : OpR X (compareOp .In) (rInP X.K false) := by
  intro pins s σ H x y v u Q I rx ry h
  obtain ⟨b, l, p, xs, ps, rfl, rfl, hb, hl, hp, q⟩ := h
  cases rx
  cases ry
  obtain ⟨its, r, pl, _⟩ := I.list hl
  obtain ⟨f, h1, h2⟩ := pair_mem (A := X.A.in1) I hb hu hp r
  refine SeqAt.in_listAt f pl.isList (fun w hw => h1 w (by simpa using hw)) ⟨.bl _, H, I, rfl, ?_⟩
  rw [show its.toArray.any f = its.any f by simp, h2]
  exact q
theorem op_notInP (hu : X.A.units + 1 < cLine) : OpR X (compareOp .NotIn) (rInP X.K true) := by
  intro pins s σ H x y v u Q I rx ry h
  obtain ⟨b, l, p, xs, ps, rfl, rfl, hb, hl, hp, q⟩ := h
  cases rx
  cases ry
  obtain ⟨its, r, pl, _⟩ := I.list hl
  obtain ⟨f, h1, h2⟩ := pair_mem (A := X.A.in1) I hb hu hp r
  refine SeqAt.notIn_listAt f pl.isList (fun w hw => h1 w (by simpa using hw)) ⟨.bl _, H, I, rfl, ?_⟩
  rw [show its.toArray.any f = its.any f by simp, h2]
  exact q
/-! ### isinstance -/
theorem call_isi : CallR X (.builtin "isinstance") (fun xs H Q => ∃ (x : V) (T : String) (t : Value) (b : Bool), xs = [x, .ty T] ∧ TyOf X.K H x t ∧ PySem.W.kitOne X.K t (.type T) = some b ∧ Q (.bl b) H) := by
  intro pins s σ H xs us Q I r h
  obtain ⟨x, T, t, b, rfl, ty, e, q⟩ := h
  obtain ⟨u, w', rfl, rx, ry⟩ := vals2 r
  cases ry
  exact isinst_ok I rx ty e fun tk => ⟨.bl b, H, I.tok tk, rfl, q⟩
/-! ### list.count of ints -/
/-! ### range(a, b, -1) -/
def Itd (lo : Int) (n : Nat) : It := ⟨fun i _ => i < n, fun i H x H' => H' = H ∧ x = .int (lo - i), fun i _ => n ≤ i⟩
def iRngD (ta : TA) : TI := fun σ H R => ta σ H fun vs H1 => ∃ i : Int, vs = [.int i, .int (-1), .int (-1)] ∧ -1 ≤ i ∧ i < 2 ^ 62 ∧ R (Itd i (i + 1).toNat) H1
end
end HW
end
section
set_option maxRecDepth 100000
namespace HW
/-! ### the numbers that stand for places -/
def called (k : Int) : Int := if k = 0 then 10 ^ 20 else 6 - 4 * (k / 2) - k % 2
/-! ### lists that rise -/
abbrev Asc (l : List Int) : Prop := l.Pairwise (· < ·)
theorem asc_of {l : List Int} (h : l.Pairwise (· ≤ ·)) (n : l.Nodup) : Asc l := by
  have q := List.pairwise_and_iff.mpr ⟨h, n⟩
  exact q.imp fun {a b} z => by
    have z1 := z.1
    have z2 : a ≠ b := z.2
    omega
/-! ### neighbours -/
def adj (ps : List (Int × Int)) (p q : Int) : Prop := (p, q) ∈ ps ∨ (q, p) ∈ ps
instance (ps : List (Int × Int)) (p q : Int) : Decidable (adj ps p q) := by unfold adj; infer_instance
def foundOf (p : Int) : List (Int × Int) → List Int
  | [] => []
  | b :: r => if b.1 = p then b.2 :: foundOf p r else if b.2 = p then b.1 :: foundOf p r else foundOf p r
/-! ### what k01 says: the due list -/
def dueOf (ps : List (Int × Int)) (p : Int) (size : Nat) : Nat → List Int
  | 0 => []
  | i + 1 => dueOf ps p size i ++ (if adj ps p (called ((size : Int) - 1 - i)) then [called ((size : Int) - 1 - i)] else [])
/-- both ends of every pair are called by a number below size -/
def Within (ps : List (Int × Int)) (size : Int) : Prop := ∀ b ∈ ps, (∃ i, 0 ≤ i ∧ i < size ∧ b.1 = called i) ∧ ∃ j, 0 ≤ j ∧ j < size ∧ b.2 = called j
end HW
end
section
set_option Elab.async false
set_option linter.all false
set_option maxRecDepth 100000
namespace HW
open PySem PySem.Spec PyProof.Rows L2
/-! ### small facts -/
theorem bt_len : bootBuiltins "len" = some (.builtin "len") := by decide +kernel
theorem bt_isinstance : bootBuiltins "isinstance" = some (.builtin "isinstance") := by decide +kernel
theorem bt_int : bootBuiltins "int" = some (.type "int") := by decide +kernel
theorem bt_bool : bootBuiltins "bool" = some (.type "bool") := by decide +kernel
theorem bt_list : bootBuiltins "list" = some (.type "list") := by decide +kernel
theorem bt_tuple : bootBuiltins "tuple" = some (.type "tuple") := by decide +kernel
theorem bt_sorted : bootBuiltins "sorted" = some (.builtin "sorted") := by decide +kernel
theorem bt_min : bootBuiltins "min" = some (.builtin "min") := by decide +kernel
theorem bt_max : bootBuiltins "max" = some (.builtin "max") := by decide +kernel
theorem same_new {H : Hp} {p : Addr} (h : H p = none) (o : HO) : Same H (upd H p o) := fun b u q => by rw [upd_ne (ne_of_none q h)]; exact q
/-- an object that was not there at H is written -/
theorem same_put {H H' : Hp} {p : Addr} (s : Same H H') (h : H p = none) (o : HO) : Same H (upd H' p o) := fun b u q => by rw [upd_ne (ne_of_none q h)]; exact s b u q
theorem _root_.L2.Same.prs {H H' : Hp} (e : Same H H') {xs : List V} {ps : List (Int × Int)} (h : Prs H xs ps) : Prs H' xs ps := Paired.mapP h fun v p ⟨a, h1, h2⟩ => ⟨a, h1, e _ _ h2⟩
theorem Prs.length {H : Hp} {xs : List V} {ps : List (Int × Int)} (h : Prs H xs ps) : xs.length = ps.length := Paired.length h
theorem Prs.get {H : Hp} : ∀ {xs : List V} {ps : List (Int × Int)} {i : Nat} {x : V}, Prs H xs ps → xs[i]? = some x → ∃ p, ps[i]? = some p ∧ PairAt H x p
  | _, _, _, _, .nil, e => by simp at e
  | _, _, 0, _, .cons r _, e => by simp at e; subst e; exact ⟨_, rfl, r⟩
  | _, _, i + 1, x, .cons _ t, e => by
    obtain ⟨p, h1, h2⟩ := Prs.get (i := i) (x := x) t (by simpa using e)
    exact ⟨p, by simpa using h1, h2⟩
theorem Prs.snoc {H : Hp} {xs : List V} {ps : List (Int × Int)} {v : V} {p : Int × Int} (h : Prs H xs ps) (hv : PairAt H v p) : Prs H (xs ++ [v]) (ps ++ [p]) := by
  induction h with
  | nil => exact .cons hv .nil
  | cons r t ih => exact .cons r ih
theorem take_snoc {α : Type} {l : List α} {i : Nat} {x : α} (h : l[i]? = some x) : l.take (i + 1) = l.take i ++ [x] := by
  rw [List.take_add_one, h]
  rfl
theorem ints_get {ns : List Int} {i : Nat} {y : V} (h : (ns.map V.int)[i]? = some y) : ∃ z, y = .int z ∧ ns[i]? = some z := by
  rw [List.getElem?_map] at h
  cases e : ns[i]? with
  | none => rw [e] at h; cases h
  | some z => rw [e] at h; exact ⟨z, (Option.some.inj h).symm, rfl⟩
theorem atI_ints {ns : List Int} {k : Int} (h0 : 0 ≤ k) (h : k < (ns.length : Int)) : atI (ns.map V.int) k = some (.int (ns.getD k.toNat 0)) := by
  have hk : k.toNat < ns.length := by omega
  have ek : k = ((k.toNat : Nat) : Int) := by omega
  have q : atI (ns.map V.int) ((k.toNat : Nat) : Int) = some (.int ns[k.toNat]) := atI_nat (by rw [List.getElem?_map, List.getElem?_eq_getElem hk] <;> rfl)
  rw [← ek] at q
  rw [q]
  simp [hk]
theorem atI_of {α : Type} {xs : List α} {k : Int} (h0 : 0 ≤ k) (h : k < (xs.length : Int)) : ∃ v, atI xs k = some v ∧ xs[k.toNat]? = some v := by
  have hk : k.toNat < xs.length := by omega
  have ek : k = ((k.toNat : Nat) : Int) := by omega
  refine ⟨xs[k.toNat], ?_, List.getElem?_eq_getElem hk⟩
  have q : atI xs ((k.toNat : Nat) : Int) = some xs[k.toNat] := atI_nat (List.getElem?_eq_getElem hk)
  rw [← ek] at q
  exact q
theorem dec_of {i j : Int} {c : Prop} (h : decide (V.int i = V.int j) = true) : i = j := by
  have q := of_decide_eq_true h
  injection q
theorem dec_not {i j : Int} (h : ¬ decide (V.int i = V.int j) = true) : i ≠ j := fun e => h (decide_eq_true (by rw [e]))
/-! ### the promises of the defs that the laws share -/
def spUpto (K : PySem.W.Frag) : Sp := fun vs H Q _ => ∃ (a : Addr) (xs : List V) (sm gr : Int), vs = [.ref a, .int sm, .int gr] ∧ SqL K H a xs ∧ xs.length ≤ 63 ∧ Q (.int sm) H
def spWhole : Sp := fun vs H Q _ => ∃ i : Int, vs = [.int i] ∧ Q (.bl true) H
def spAt (K : PySem.W.Frag) : Sp := fun vs H Q _ => ∃ (a : Addr) (ns : List Int) (k : Int), vs = [.ref a, .int k] ∧ SqL K H a (ns.map V.int) ∧ 0 ≤ k ∧ Q (.int (ns.getD k.toNat 0)) H
def spCalled : Sp := fun vs H Q _ => ∃ k : Int, vs = [.int k] ∧ 0 ≤ k ∧ Q (.int (called k)) H
def spPairs (K : PySem.W.Frag) : Sp := fun vs H Q _ => ∃ (a b : Addr) (xs : List V) (ps : List (Int × Int)), vs = [.ref a, .ref b] ∧ H a = some (.lst xs) ∧ SqL K H b xs ∧ Prs H xs ps ∧ ps.length ≤ 1000 ∧ Q (.bl true) H
def spNumbers (K : PySem.W.Frag) : Sp := fun vs H Q _ => ∃ (a b : Addr) (ns : List Int), vs = [.ref a, .ref b] ∧ H a = some (.lst (ns.map V.int)) ∧ SqL K H b (ns.map V.int) ∧ ns.length ≤ 1000 ∧ Q (.bl true) H
def spBeside (K : PySem.W.Frag) : Sp := fun vs H Q _ => ∃ (p : Int) (b : Addr) (xs : List V) (ps : List (Int × Int)), vs = [.int p, .ref b] ∧ SqL K H b xs ∧ Prs H xs ps ∧ ps.length ≤ 1000 ∧ (∃ B : List Int, B.length < 64 ∧ ∀ z, adj ps p z → z ∈ B) ∧
  ∀ (r : Addr) (H' : Hp) (ns : List Int), Same H H' → H r = none → H' r = some (.lst (ns.map V.int)) → Asc ns → (∀ z, z ∈ ns ↔ adj ps p z) → Q (.ref r) H'
/-- law's: a list of at most 63 ints is handed in, True comes out -/
def spLaw (K : PySem.W.Frag) : Sp := fun vs H Q _ => ∃ (a : Addr) (ns : List Int), vs = [.ref a] ∧ SqL K H a (ns.map V.int) ∧ ns.length ≤ 63 ∧ ∀ H', Q (.bl true) H'
/-- a def of the text that keeps a promise -/
def Has (P : Program) (w : World) (K : PySem.W.Frag) (mg : Str → Option Value) (base : Heap) (x : Str) (ps : List Str) (k : Nat) (sp : Sp) : Prop :=
  ∃ f fd, FnOk P w K mg base CX0 k f fd ps sp ∧ Binds K fd ps [] ∧ PySem.W.keepIn K (.ref f) = true ∧ mg x = some (.ref f)
theorem perm_dedup {ms ns' : List Int} (p : ns'.Perm ms) (nd : ms.Nodup) (pw : ns'.Pairwise (· ≤ ·)) : Asc ns' := asc_of pw (p.nodup_iff.mpr nd)
/-- a list without repeats whose members stand in another is not longer -/
theorem nodup_len : ∀ {l m : List Int}, l.Nodup → (∀ z ∈ l, z ∈ m) → l.length ≤ m.length
  | [], _, _, _ => Nat.zero_le _
  | x :: r, m, nd, h => by
    have hx : x ∈ m := h x (by simp)
    have nd' := List.nodup_cons.mp nd
    have ih := nodup_len (l := r) (m := m.erase x) nd'.2 fun z hz => by
      have hne : z ≠ x := fun e => nd'.1 (e ▸ hz)
      exact (List.mem_erase_of_ne hne).mpr (h z (by simp [hz]))
    rw [List.length_erase_of_mem hx] at ih
    have := List.length_pos_of_mem hx
    simp only [List.length_cons]
    omega
end HW
namespace HW
open PySem PySem.Spec PyProof.Rows L2
theorem and_pure {t u : TT} {σ : St} {H : Hp} {b1 b2 : Bool} {Q : Bool → Hp → Prop} (ht : ∀ Q : Bool → Hp → Prop, Q b1 H → t σ H Q) (hu : ∀ Q : Bool → Hp → Prop, Q b2 H → u σ H Q) (h : Q (b1 && b2) H) : tAnd t u σ H Q := by
  refine ht _ ?_
  cases b1 with
  | true => exact iteT (hu _ h)
  | false => exact iteF h
theorem or_pure {t u : TT} {σ : St} {H : Hp} {b1 b2 : Bool} {Q : Bool → Hp → Prop} (ht : ∀ Q : Bool → Hp → Prop, Q b1 H → t σ H Q) (hu : ∀ Q : Bool → Hp → Prop, Q b2 H → u σ H Q) (h : Q (b1 || b2) H) : tOr t u σ H Q := by
  refine ht _ ?_
  cases b1 with
  | true => exact iteT h
  | false => exact iteF (hu _ h)
theorem ifs_and {t u : TT} {a b : TS} {D : Ends} {σ : St} {H : Hp} {b1 b2 : Bool} (ht : ∀ Q : Bool → Hp → Prop, Q b1 H → t σ H Q) (hu : ∀ Q : Bool → Hp → Prop, Q b2 H → u σ H Q) (h : if (b1 && b2) = true then a D σ H else b D σ H) : tIfS (tAnd t u) a b D σ H := and_pure ht hu h
theorem ifs_or {t u : TT} {a b : TS} {D : Ends} {σ : St} {H : Hp} {b1 b2 : Bool} (ht : ∀ Q : Bool → Hp → Prop, Q b1 H → t σ H Q) (hu : ∀ Q : Bool → Hp → Prop, Q b2 H → u σ H Q) (h : if (b1 || b2) = true then a D σ H else b D σ H) : tIfS (tOr t u) a b D σ H := or_pure ht hu h
theorem cut_upto {xs : List V} (h : xs.length ≤ 1000) : cutV xs none (some 1000) = xs := by
  unfold cutV
  rw [HT.sIx_none, show (1000 : Int) = ((1000 : Nat) : Int) from rfl, HT.sIx_nat, Nat.sub_zero, List.drop_zero, Nat.min_eq_right h, List.take_length]
theorem cut_drop {xs : List V} (k : Nat) : cutV xs (some (k : Int)) none = xs.drop k := by
  unfold cutV
  rw [HT.sIx_nat, HT.sIx_none]
  rcases Nat.le_total k xs.length with c | c
  · rw [Nat.min_eq_left c, List.take_of_length_le (by rw [List.length_drop]; exact Nat.le_refl _)]
  · rw [Nat.min_eq_right c, List.drop_eq_nil_of_le c, List.drop_length, List.take_nil]
theorem kit_int_bool {K : PySem.W.Frag} : PySem.W.kitOne K (.type "int") (.type "bool") = some false := by kernel_rfl
end HW
end
section
set_option Elab.async false
set_option linter.all false
set_option maxRecDepth 100000
namespace HW
open PySem PySem.Spec PyProof.Rows L2
/-! ### a comprehension, stored under a name: its block is a context of its own -/
def cxComp (X : Cx) (N : List Str) (scope : Scope) (cl : List (Str × Addr)) (s₃ : Shared) (H₃ : Hp) (ex : List Addr) : Cx :=
  { X with N := N, s₀ := s₃, H₀ := H₃, env := compEnvC scope cl s₃.heap.objs.size X.env, outer := X.stack, stack := X.stack, ex := ex, fn := fun x => (cl.lookup x).isNone, pn := [], xe := fun _ _ => False }
structure CompOk (X : Cx) (scope : Scope) (cl : List (Str × Addr)) : Prop where
  kind : scope.kind = .function
  nocell : ∀ y ∈ scope.names, y.2 ≠ .cell
  loc : ∀ y ∈ scope.names, y.2 = .local → scope.names.lookup y.1 = some .local
  clos : closureFor scope X.env = pure cl
  sub : ∀ x c, cl.lookup x = some c → X.env.cells.lookup x = some c
  has : ∀ x, ((relabel scope X.env).names.lookup x = some .cell ∨ (relabel scope X.env).names.lookup x = some .free) → ∃ c, cl.lookup x = some c
section
variable {X : Cx} {pins : List (Addr × Obj)} {σ : St} {H : Hp} {s : Shared} {scope : Scope} {cl : List (Str × Addr)} {N : List Str} {fp : List Addr}
theorem comp_ok (I : Inv X pins σ H s) (C : CompOk X scope cl) (hfp : ∀ b ∈ fp, FpOk X pins H b) (hlt : ∀ b ∈ fp, b < s.heap.objs.size) : (cxComp X N scope cl s H fp).Ok where
  mod := I.ok.mod
  kind := C.kind
  glob := I.ok.glob
  blt := I.ok.blt
  above := Nat.le_refl _
  inj := fun x y c h1 h2 => I.ok.inj x y c (C.sub x c h1) (C.sub y c h2)
  has := fun x h => C.has x h
  cab := fun x c h1 h2 => by
    have h1' : (cl.lookup x).isNone = true := h1
    have h2' : cl.lookup x = some c := h2
    rw [h2'] at h1'
    cases h1'
  hd := I.ok.hd
  frames := I.ok.frames
  stk := .inl rfl
  exf := fun b hb => ⟨Nat.ne_of_lt (hlt b hb), fun x c e => (hfp b hb).2.2.2.2.1 x c (C.sub x c e)⟩
  bs := fun b o e => I.bs b o e
  bsz := Nat.le_trans I.ok.bsz I.sz
  noex := fun b o e hb => by
    rcases (hfp b hb).2.2.2.1 with z | z
    · exact I.ok.noex b o e z
    · exact absurd (Nat.lt_of_lt_of_le (Heap.lt_size e) I.ok.bsz) (Nat.not_lt.mpr z)
  exfs := fun b hb z => (List.mem_cons.mp (I.stkSub b z)).elim (hfp b hb).2.1 (hfp b hb).2.2.1
  funs := I.stack
  frf := fun b hb => I.stkFree b hb
theorem comp_inv (I : Inv X pins σ H s) (C : CompOk X scope cl) (hfp : ∀ b ∈ fp, FpOk X pins H b) (hlt : ∀ b ∈ fp, b < s.heap.objs.size) {h4 : Heap} {m : Str → Option Value} {t : Nat} (hn : h4.Ns s.heap.objs.size m)
    (keep : ∀ b o, s.heap.get? b = some o → h4.get? b = some o) {σ0 : St} (hl : σ0.length = N.length)
    (hv : ∀ (j : Nat) (x : Str) (v : V), N[j]? = some x → σ0[j]? = some (some v) → ∃ i : Nat, X.N[i]? = some x ∧ σ[i]? = some (some v) ∧ X.env.kindOf x = some .cell ∧ (relabel scope X.env).names.lookup x = some .cell) :
    Inv (cxComp X N scope cl s H fp) [] σ0 H { s with heap := h4, toks := t } where
  ok := comp_ok I C hfp hlt
  os := rfl
  bare := I.bare
  base := Un.kept keep
  loc := by
    refine ⟨m, hn, fun j x v e1 e2 e3 => ?_⟩
    obtain ⟨i, h1, h2, h3, h4'⟩ := hv j x v e1 e2
    obtain ⟨m', _, hm⟩ := I.loc
    obtain ⟨u, r, lk⟩ := hm i x v h1 h2 (.inr (.inl h3))
    refine ⟨u, r, .inr ⟨.inl h4', ?_⟩⟩
    rcases lk with ⟨k, _⟩ | ⟨_, c, ec, ic⟩
    · rw [h3] at k
      cases k
    · obtain ⟨c', ec'⟩ := C.has x (.inl h4')
      have e := C.sub x c' ec'
      rw [ec] at e
      cases e
      obtain ⟨o, ho, hd⟩ := ic
      exact ⟨c, ec', o, keep c o ho, hd⟩
  cell := fun x c e => by
    obtain ⟨v, o, ho, hd⟩ := I.cell x c (C.sub x c e)
    exact ⟨v, o, keep c o ho, hd⟩
  free := I.hok.fresh (Nat.le_refl _)
  freeC := fun x c e => I.freeC x c (C.sub x c e)
  pin := fun p hp => by cases hp
  hok := I.hok.kept keep
  len := hl
/-- the tests of a comprehension: none, or one -/
def PIf (X : Cx) (ifs : List Expr) (t : TT) : Prop :=
  ∀ (pins : List (Addr × Obj)) (s : Shared) (σ : St) (H : Hp) (Q : Bool → Hp → Prop), Inv X pins σ H s → t σ H Q →
    wpAny (model X.prog X.w) X.A (forIn ifs true fun c r => if r = true then do let ok ← isTrue c X.env (eval c X.env); pure (ForInStep.yield ok) else pure (ForInStep.yield r)) (TP X pins σ Q) X.xe s
def tYes : TT := fun _ H Q => Q true H
theorem pif_nil : PIf X [] tYes := fun pins s σ H Q I h => wpAny_pure ⟨H, I, h⟩
theorem pif_one {c : Expr} {t : TT} (h : PT X c t) : PIf X [c] t := by
  intro pins s σ H Q I q
  show wpAny _ _ ((do let ok ← isTrue c X.env (eval c X.env); pure (ForInStep.yield ok)) >>= _) _ _ _
  refine wpAny_bind (wpAny_bind (thn (h pins s σ H Q I q) fun b s1 hb => wpAny_pure ?_))
  exact wpAny_pure hb
/-- y = [elt for x in iter if ..]: acc is the new list; σ0 holds the values of the names that the block reads from around -/
def tComp (X : Cx) (N : List Str) (scope : Scope) (iy : Nat) (wi : TI) (g : TG) (tc : TT) (te : TE) : TS := fun D σ H => wi σ H fun J H1 => ∀ acc, H1 acc = none →
  ∃ (σ0 : St) (W : Nat → Nat → St → Hp → Prop), σ0.length = N.length ∧
    (∀ (j : Nat) (x : Str) (v : V), N[j]? = some x → σ0[j]? = some (some v) → ∃ i : Nat, X.N[i]? = some x ∧ σ[i]? = some (some v) ∧ X.env.kindOf x = some .cell ∧ (relabel scope X.env).names.lookup x = some .cell) ∧
    (∃ m, W 0 m σ0 (upd H1 acc (.lst []))) ∧ ∀ i m σ' H', W i m σ' H' →
      (J.stop i H' ∧ D.nx (σ.set iy (some (.ref acc))) H') ∨
      (J.go i H' ∧ ∃ N' : St → Hp → Prop, (∀ σ2 H2, N' σ2 H2 → ∃ m', m' < m ∧ W (i + 1) m' σ2 H2) ∧ ∀ x H2, J.yld i H' x H2 → g x σ' H2 fun σ2 H3 => tc σ2 H3 fun b H4 =>
        if b = true then te σ2 H4 fun v H5 => ∃ ys, H5 acc = some (.lst ys) ∧ ys.length < sizeLine ∧ N' σ2 (upd H5 acc (.lst (ys ++ [v]))) else N' σ2 H4)
set_option maxHeartbeats 4000000 in
theorem ps_comp {x y : Str} {px py pos spos : Pos} {iter elt : Expr} {ifs : List Expr} {iy : Nat} {wi : TI} {g : TG} {tc : TT} {te : TE} (hp : PassesOwn (model X.prog X.w) X.A X.env X.xe) (hc : X.calm = true) (C : CompOk X scope cl) (hN : X.N.Nodup) (hi : X.N[iy]? = some y) (hy : Loc X.env.scope y)
    (hI : PI X (.Name x px) iter wi) (hg : ∀ s₃ H₃ ex, PG (cxComp X N scope cl s₃ H₃ ex) (.Name x px) g) (hif : ∀ s₃ H₃ ex, PIf (cxComp X N scope cl s₃ H₃ ex) ifs tc) (he : ∀ s₃ H₃ ex, PE (cxComp X N scope cl s₃ H₃ ex) elt te)
    (hsw : swapsWith (.ListComp elt [⟨.Name x px, iter, ifs, 0⟩] scope pos) (some (.Name y py)) spos.line X.env = pure true)
    (hf : X.fn y = true ∨ X.env.scope.names.lookup y = some .local := by first | exact .inl rfl | exact .inr rfl | assumption) (hs : ∀ z, foldedSetIterable iter X.env z = pure z := by intro _; rfl) :
    PS X (.Assign [.Name y py] (.ListComp elt [⟨.Name x px, iter, ifs, 0⟩] scope pos) spos) (tComp X N scope iy wi g tc te) := by
  intro pins s σ H D I h
  rw [exec_Assign_Name_used _ _ _ _ hsw]
  refine wpAny_bind (wpAny_standAt (wpAny_bind ?_))
  show wpAny _ X.A (do let _ ← comprehension (.ListComp elt [⟨.Name x px, iter, ifs, 0⟩] scope pos) scope X.env _ (newList []) false (eval iter X.env) (some (assign (.Name y py) X.env))) _ _ s
  refine wpAny_bind (wpAny_mono (wpAny_comprehension_free (use := some (assign (.Name y py) X.env)) (Q := fun _ s' => SP X pins D .next s') rfl hs C.clos C.kind C.loc
    (thn (hI pins s σ H _ I h) fun v s1 h1 => thn h1 fun itv s2 h2 => ?_)) (fun _ s' hq => wpAny_pure (wpAny_pure hq)) fun _ _ e => e)
  obtain ⟨it, fp, tn, J, H2, e, I2, T, st2, f2, r2⟩ := h2
  subst e
  have hobj := T.obj _ _ st2
  have hlt2 : ∀ b ∈ fp, b < s2.heap.objs.size := fun b hb => by
    obtain ⟨o, e, _⟩ := hobj b hb
    exact Heap.lt_size e
  -- the new list
  refine wpAny_newObj_type ?_
  have I3 : Inv X pins σ (upd H2 s2.heap.objs.size (.lst [])) { s2 with heap := s2.heap.push { cls := .type "list", data := .seq ([] : List Value).toArray } } := I2.lnew (t' := s2.toks) (ys := []) .nil (Nat.zero_le _)
  have hacc := I2.hok.fresh (Nat.le_refl s2.heap.objs.size)
  obtain ⟨σ0, W, hl0, hv0, ⟨m0, w0⟩, turn⟩ := r2 s2.heap.objs.size hacc
  have hsz : (s2.heap.push { cls := .type "list", data := .seq ([] : List Value).toArray }).objs.size = s2.heap.objs.size + 1 := Heap.size_push ..
  have f3 : ∀ b ∈ fp, FpOk X pins (upd H2 s2.heap.objs.size (.lst [])) b := fun b hb => ⟨by rw [upd_ne (Nat.ne_of_lt (hlt2 b hb))]; exact (f2 b hb).1, (f2 b hb).2⟩
  have hlt3 : ∀ b ∈ fp, b < (s2.heap.push { cls := .type "list", data := .seq ([] : List Value).toArray }).objs.size := fun b hb => by
    rw [hsz]
    exact Nat.lt_succ_of_lt (hlt2 b hb)
  generalize hs3 : ({ s2 with heap := s2.heap.push { cls := .type "list", data := .seq ([] : List Value).toArray } } : Shared) = s3 at I3 ⊢
  have hheap : s3.heap = s2.heap.push { cls := .type "list", data := .seq ([] : List Value).toArray } := by rw [← hs3]
  have st3 : tn 0 s3.heap := T.keep 0 _ _ st2 fun b hb o e => by rw [hheap]; exact Heap.get?_push_of_some _ e
  rw [← hheap] at hlt3
  generalize hH3 : upd H2 s2.heap.objs.size (.lst []) = H3 at I3 f3 w0
  -- the block's own names
  refine wpAny_newFunctionEnv C.nocell (by intro z hz; simp at hz) (fun h4 hn4 hsb4 => ?_) C.kind
  have keep4 : ∀ b o, s3.heap.get? b = some o → h4.get? b = some o := fun b o e => hsb4.extBut b o (Nat.ne_of_lt (Heap.lt_size e)) (Heap.get?_push_of_some _ e)
  have I4 := comp_inv (N := N) (t := s3.toks + ([] : List (Str × Value)).length) I3 C f3 hlt3 hn4 keep4 hl0 hv0
  have fpc : ∀ {H' : Hp}, (∀ b ∈ fp, H' b = none) → ∀ b ∈ fp, FpOk (cxComp X N scope cl s3 H3 fp) [] H' b := fun hn b hb =>
    ⟨hn b hb, Nat.ne_of_lt (hlt3 b hb), fun z => (List.mem_cons.mp (I3.stkSub b z)).elim (f3 b hb).2.1 (f3 b hb).2.2.1, .inl hb, fun z c e => (f3 b hb).2.2.2.2.1 z c (C.sub z c e), fun p hp => by cases hp⟩
  have st4 : tn 0 h4 := T.keep 0 _ _ st3 fun b hb o e => keep4 b o e
  have fC : FpOk X pins H3 s3.heap.objs.size := I3.fpOk (Nat.le_refl _) (I3.hok.fresh (Nat.le_refl _))
  have nof : ∀ {E' : Value → Shared → Prop} (e : Value) (s' : Shared), False → E' e s' := fun _ _ z => z.elim
  have loop : ∀ s5 : Shared, s5 = { s3 with heap := h4, toks := s3.toks + ([] : List (Str × Value)).length } →
      codeAny (model X.prog X.w) X.A (.compLoop (.ListComp elt [⟨.Name x px, iter, ifs, 0⟩] scope pos) 0 (.ref it) (.ref s2.heap.objs.size) (compEnvC scope cl s3.heap.objs.size X.env))
        (compPost (model X.prog X.w) X.A X.xe (some (assign (.Name y py) X.env)) (fun _ s' => SP X pins D .next s') (.ref s2.heap.objs.size) s3.heap.objs.size) s5 := by
    rintro s5 rfl
    refine codeAny_compLoop_tests (fun n s' => ∃ i σ' H', Inv (cxComp X N scope cl s3 H3 fp) [] σ' H' s' ∧ tn i s'.heap ∧ (∀ b ∈ fp, H' b = none) ∧ W i n σ' H') ?_ m0 ⟨0, σ0, H3, I4, st4, fun b hb => (f3 b hb).1, w0⟩
    rintro n s6 ⟨i, σ6, H6, I6, st6, fr6, w6⟩
    rcases turn i n σ6 H6 w6 with ⟨stop, qn⟩ | ⟨go, N', hN', step⟩
    · refine wpAny_mono (T.done (cxComp X N scope cl s3 H3 fp) rfl rfl rfl hc i [] s6 σ6 H6 (fun _ _ => False) I6 (fpc fr6) st6 stop) (fun r s7 ⟨hr, I7⟩ => ?_) nof
      subst hr
      -- the list is stored
      have I8 : Inv X pins σ H6 s7 := I3.call' I7.os I7.base I7.hok I7.bare fun b hb => ⟨(f3 b hb).2.2.2.1, (f3 b hb).2.1, (f3 b hb).2.2.2.2.1, (f3 b hb).2.2.2.2.2⟩
      show wpAny _ X.A (assign (.Name y py) X.env (.ref s2.heap.objs.size)) _ _ _
      refine wpAny_assign_Name (store_ok2 I8 hN hi hy (v := .ref s2.heap.objs.size) rfl (fun s8 I9 hch => ?_) hf)
      obtain ⟨m7, hm7, _⟩ := I7.loc
      have hC7 : H6 s3.heap.objs.size = none := I7.free
      obtain ⟨c8, sb8, hc8⟩ := hch
      have hne : s3.heap.objs.size ≠ c8 := by
        rcases hc8 with z | z
        · rw [z]
          exact fC.2.1
        · exact fun q => fC.2.2.2.2.1 _ c8 z q.symm
      refine ⟨m7, hm7.sameBut sb8 hne, fun h' sbC => ?_⟩
      have I10 : Inv X pins (σ.set iy (some (.ref s2.heap.objs.size))) H6 { s8 with heap := h', toks := s8.toks } := I9.turned (it := s3.heap.objs.size) (fun b o hb e => sbC.extBut b o hb e) hC7 fC.2.1 fC.2.2.2.1 fC.2.2.2.2.1 fC.2.2.2.2.2
      exact ⟨_, H6, I10, qn⟩
    · refine wpAny_mono (T.item (cxComp X N scope cl s3 H3 fp) rfl rfl rfl hc i [] s6 σ6 H6 (fun _ _ => False) I6 (fpc fr6) st6 go) (fun r s7 ⟨u, hr, h7⟩ => ?_) nof
      subst hr
      show wpAny _ X.A (letOwnedTupleGo (.Name x px) (.ref it) u >>= fun _ => assign (.Name x px) (compEnvC scope cl s3.heap.objs.size X.env) u) _ _ _
      refine wpAny_bind (wpAny_mono h7 (fun _ s8 ⟨z, H8, I8, r8, y8, st8, fr8⟩ => ?_) nof)
      have I8' := I8.pinned (fpc fr8) (T.obj _ _ st8)
      refine wpAny_mono (hg s3 H3 fp _ s8 σ6 H8 z u _ I8' r8 (step z H8 y8)) (fun _ s9 ⟨σ9, H9, I9, q9⟩ => ?_) nof
      refine wpAny_mono (hif s3 H3 fp _ s9 σ9 H9 _ I9 q9) (fun b s10 ⟨H10, I10, q10⟩ => ?_) nof
      have again : ∀ {s' : Shared} {H' : Hp}, Inv (cxComp X N scope cl s3 H3 fp) ([] ++ pinsAt fp s8.heap) σ9 H' s' → N' σ9 H' → ∃ m, m < n ∧ ∃ i σ' H', Inv (cxComp X N scope cl s3 H3 fp) [] σ' H' s' ∧ tn i s'.heap ∧ (∀ b ∈ fp, H' b = none) ∧ W i m σ' H' := fun {s' H'} I' n' => by
        obtain ⟨m', hm, w'⟩ := hN' σ9 H' n'
        refine ⟨m', hm, i + 1, σ9, H', I'.unpinned, T.keep _ _ _ st8 fun b hb o e => (I'.pin (b, o) (List.mem_append_right _ (List.mem_append_right _ (mem_pinsAt hb e)))).1, fun b hb => ?_, w'⟩
        obtain ⟨o, e, d⟩ := T.obj _ _ st8 b hb
        exact (I'.pin (b, o) (List.mem_append_right _ (List.mem_append_right _ (mem_pinsAt hb e)))).2.1
      cases b with
      | false =>
        simp only [Bool.false_eq_true, if_false] at q10 ⊢
        exact again I10 q10
      | true =>
        simp only [if_true] at q10 ⊢
        refine wpAny_mono (he s3 H3 fp _ s10 σ9 H10 _ I10 q10) (fun ev s11 ⟨v11, H11, I11, r11, ys, ha, hys, q11⟩ => ?_) nof
        refine wpAny_mono (mt_append (X := cxComp X N scope cl s3 H3 fp) _ s11 σ9 H11 (.ref s2.heap.objs.size) [v11] (.ref s2.heap.objs.size) [ev] (fun _ H' => N' σ9 H') I11 rfl (.cons r11 .nil) ⟨_, ys, v11, rfl, rfl, ha, hys, q11⟩) (fun _ s12 ⟨_, H12, I12, _, q12⟩ => ?_) nof
        exact again I12 q12
  exact codeAny_compStart_list (loop _ rfl) (T.self X.A 0 _ _ _ st4 (loop _ rfl))
end
end HW
end
section
set_option Elab.async false
set_option linter.all false
set_option maxRecDepth 100000
namespace HW
open PySem PySem.Spec PyProof.Rows L2
/-! ### list(reversed(xs)) -/
section
variable {P : Program} {w : World} {A : Around} {E : Value → Shared → Prop} {s : Shared}
end
section
variable {X : Cx} {e : Expr} {te : TE} {p1 p2 pos1 pos2 : Pos}
end
end HW
end
section
set_option Elab.async false
set_option linter.all false
set_option maxRecDepth 100000
namespace HW
open PySem PySem.Spec PyProof.Rows L2
theorem prs_put {H : Hp} {f : Addr} {zs : List V} {o : HO} (hf : H f = some (.lst zs)) {xs : List V} {ps : List (Int × Int)} (h : Prs H xs ps) : Prs (upd H f o) xs ps :=
  Paired.mapP h fun v p ⟨a, h1, h2⟩ => ⟨a, h1, by rw [upd_ne (ne_of h2 hf (by intro z; cases z))]; exact h2⟩
theorem inV_int {i : Int} : ∀ {ns : List Int}, inV (.int i) (ns.map V.int) = decide (i ∈ ns)
  | [] => rfl
  | k :: r => by
    have ih := inV_int (i := i) (ns := r)
    unfold inV at ih ⊢
    rw [List.map_cons, List.any_cons, ih]
    show ((k == i) || decide (i ∈ r)) = decide (i ∈ k :: r)
    by_cases c : k = i
    · subst c
      simp
    · have c' : (k == i) = false := by simpa using c
      have c2 : ¬ i = k := fun e => c e.symm
      rw [c']
      simp [List.mem_cons, c2]
theorem flat_ints (ns : List Int) : (ns.map V.int).all flatV = true := by
  rw [List.all_eq_true]
  intro z hz
  obtain ⟨k, _, rfl⟩ := List.mem_map.mp hz
  rfl
/-! ### a wall, as a Bool -/
def evenB (ns : List Int) (p : Int × Int) : Bool := decide (p.1 ∈ ns) == decide (p.2 ∈ ns)
def shutB (ns : List Int) (ps : List (Int × Int)) (one other : Int) : Bool := decide (Asc ns) && (decide (one ∈ ns) && (!decide (other ∈ ns) && ps.all (evenB ns)))
def spShut (K : PySem.W.Frag) : Sp := fun vs H Q _ => ∃ (r b : Addr) (ns : List Int) (xs : List V) (ps : List (Int × Int)) (one other : Int), vs = [.ref r, .ref b, .int one, .int other] ∧ SqL K H r (ns.map V.int) ∧ SqL K H b xs ∧ Prs H xs ps ∧ ns.length ≤ 63 ∧ ps.length ≤ 63 ∧
  ∀ H', Same H H' → Q (.bl (shutB ns ps one other)) H'
def spClosed (K : PySem.W.Frag) : Sp := fun vs H Q _ => ∃ (r b : Addr) (ns : List Int) (xs : List V) (ps : List (Int × Int)), vs = [.ref r, .ref b] ∧ SqL K H r (ns.map V.int) ∧ SqL K H b xs ∧ Prs H xs ps ∧ ps.length ≤ 63 ∧ Q (.bl (ps.all (evenB ns))) H
/-! ### the forms of a comprehension -/
theorem comp_mk {N : List Str} {HV : St → Prop} {PW : St → (Nat → Nat → St → Hp → Prop) → Prop} (σ0 : St) (hl : σ0.length = N.length) (hv : HV σ0) (h : ∃ W, PW σ0 W) :
    ∃ (σ0 : St) (W : Nat → Nat → St → Hp → Prop), σ0.length = N.length ∧ HV σ0 ∧ PW σ0 W := by
  obtain ⟨W, h⟩ := h
  exact ⟨σ0, W, hl, hv, h⟩
theorem comp_up {lo : Int} {n : Nat} {σ0 : St} {H0 : Hp} {body : V → St → Hp → (St → Hp → Prop) → Prop} {Dn : Hp → Prop} (Pv : Nat → St → Hp → Prop) (h0 : Pv 0 σ0 H0)
    (hs : ∀ i σ' H', i < n → Pv i σ' H' → body (.int (lo + i)) σ' H' (Pv (i + 1))) (hd : ∀ σ' H', Pv n σ' H' → Dn H') :
    ∃ W : Nat → Nat → St → Hp → Prop, (∃ m, W 0 m σ0 H0) ∧ ∀ i m σ' H', W i m σ' H' → ((Itr lo n).stop i H' ∧ Dn H') ∨
      ((Itr lo n).go i H' ∧ ∃ N' : St → Hp → Prop, (∀ σ2 H2, N' σ2 H2 → ∃ m', m' < m ∧ W (i + 1) m' σ2 H2) ∧ ∀ x H2, (Itr lo n).yld i H' x H2 → body x σ' H2 N') := by
  refine ⟨fun i m σ H => m = n - i ∧ i ≤ n ∧ Pv i σ H, ⟨n, by simp, Nat.zero_le _, h0⟩, ?_⟩
  rintro i m σ H ⟨rfl, hi, p⟩
  by_cases hlt : i < n
  · refine .inr ⟨hlt, Pv (i + 1), fun σ' H' p' => ⟨n - (i + 1), by omega, rfl, hlt, p'⟩, fun x H' y => ?_⟩
    obtain ⟨e, y⟩ := y
    subst e y
    exact hs i σ _ hlt p
  · have e : i = n := by omega
    subst e
    exact .inl ⟨Nat.le_refl _, hd σ H p⟩
theorem look_mem {α : Type} {x : Str} {k : α} : ∀ {l : List (Str × α)}, l.lookup x = some k → (x, k) ∈ l
  | [], h => by cases h
  | (y, v) :: r, h => by
    rw [List.lookup_cons] at h
    cases e : x == y with
    | true =>
      rw [e] at h
      have e1 : x = y := eq_of_beq e
      have e2 : v = k := Option.some.inj h
      subst e1 e2
      simp
    | false =>
      rw [e] at h
      exact List.mem_cons_of_mem _ (look_mem h)
/-- the list of a comprehension over size - 1, .., 0 with a test -/
def pickL (f : Int → Bool) (size : Int) : Nat → List Int
  | 0 => []
  | i + 1 => pickL f size i ++ (if f (size - 1 - i) = true then [called (size - 1 - i)] else [])
end HW
namespace HW
open PySem PySem.Spec PyProof.Rows L2
theorem cutI_drop {ns : List Int} {k : Int} (h : 0 ≤ k) : cutV (ns.map V.int) (some k) none = (ns.drop k.toNat).map V.int := by
  have e : k = ((k.toNat : Nat) : Int) := by omega
  rw [e, cut_drop, List.map_drop]
  rfl
end HW
end
section
set_option Elab.async false
set_option linter.all false
set_option maxRecDepth 100000
namespace HW
open PySem PySem.Spec PyProof.Rows L2
/-! ### a road, as a Bool -/
def stepB (ns : List Int) (ps : List (Int × Int)) (i : Nat) : Bool := decide (adj ps (ns.getD i 0) (ns.getD (i + 1) 0))
def linkB (ns : List Int) (ps : List (Int × Int)) : Bool := (List.range (ns.length - 1)).all (stepB ns ps)
def roadB (ns : List Int) (ps : List (Int × Int)) (one other : Int) : Bool :=
  !decide (ns = []) && (decide (ns.getD 0 0 = one) && (decide (ns.getD (ns.length - 1) 0 = other) && (decide ns.Nodup && linkB ns ps)))
abbrev Bounded (ps : List (Int × Int)) : Prop := ∃ B : List Int, B.length < 64 ∧ ∀ p z, adj ps p z → z ∈ B
def spLinked (K : PySem.W.Frag) : Sp := fun vs H Q _ => ∃ (r b : Addr) (ns : List Int) (xs : List V) (ps : List (Int × Int)), vs = [.ref r, .ref b] ∧ SqL K H r (ns.map V.int) ∧ SqL K H b xs ∧ Prs H xs ps ∧ ns.length ≤ 1000 ∧ ps.length ≤ 1000 ∧ Bounded ps ∧
  ∀ H', Same H H' → Q (.bl (linkB ns ps)) H'
def spRoad (K : PySem.W.Frag) : Sp := fun vs H Q _ => ∃ (r b : Addr) (ns : List Int) (xs : List V) (ps : List (Int × Int)) (one other : Int), vs = [.ref r, .ref b, .int one, .int other] ∧ SqL K H r (ns.map V.int) ∧ SqL K H b xs ∧ Prs H xs ps ∧ ns.length ≤ 1000 ∧ ps.length ≤ 1000 ∧ Bounded ps ∧
  ∀ H', Same H H' → Q (.bl (roadB ns ps one other)) H'
/-- the places called by 0 .. n - 1, as they come -/
def upL : Nat → List Int
  | 0 => []
  | i + 1 => upL i ++ [called (i : Int)]
end HW
end
section
set_option maxRecDepth 100000
namespace HW
/-! ### the neighbours of all places at once -/
def nbs (ps : List (Int × Int)) (x : Int) : List Int := ps.flatMap fun b => (if b.1 = x then [b.2] else []) ++ (if b.2 = x then [b.1] else [])
def addN (f : Int → List Int) (x z : Int) : Int → List Int := fun y => if y = x then f y ++ [z] else f y
theorem nbs_snoc (ps : List (Int × Int)) (b : Int × Int) : nbs (ps ++ [b]) = addN (addN (nbs ps) b.1 b.2) b.2 b.1 := by
  funext y
  have e : nbs (ps ++ [b]) y = nbs ps y ++ ((if b.1 = y then [b.2] else []) ++ (if b.2 = y then [b.1] else [])) := by
    unfold nbs
    rw [List.flatMap_append]
    simp
  rw [e]
  unfold addN
  by_cases c1 : b.1 = y
  · have c1' : y = b.1 := c1.symm
    by_cases c2 : b.2 = y
    · have c2' : y = b.2 := c2.symm
      simp only [if_pos c1, if_pos c2, if_pos c1', if_pos c2', List.append_assoc]
    · have c2' : ¬ y = b.2 := fun e => c2 e.symm
      simp only [if_pos c1, if_neg c2, if_pos c1', if_neg c2', List.append_nil]
  · have c1' : ¬ y = b.1 := fun e => c1 e.symm
    by_cases c2 : b.2 = y
    · have c2' : y = b.2 := c2.symm
      simp only [if_neg c1, if_pos c2, if_neg c1', if_pos c2', List.nil_append]
    · have c2' : ¬ y = b.2 := fun e => c2 e.symm
      simp only [if_neg c1, if_neg c2, if_neg c1', if_neg c2', List.append_nil]
theorem nbs_mem (ps : List (Int × Int)) (x z : Int) : z ∈ nbs ps x ↔ adj ps x z := by
  unfold nbs adj
  rw [List.mem_flatMap]
  constructor
  · rintro ⟨b, hb, h⟩
    rcases List.mem_append.mp h with h | h
    · split at h
      · rename_i c
        rw [List.mem_singleton] at h
        subst h
        rw [← c]
        exact .inl hb
      · simp at h
    · split at h
      · rename_i c
        rw [List.mem_singleton] at h
        subst h
        rw [← c]
        exact .inr hb
      · simp at h
  · rintro (h | h)
    · exact ⟨_, h, by simp⟩
    · exact ⟨_, h, by simp⟩
theorem nbs_len (ps : List (Int × Int)) (x : Int) : (nbs ps x).length ≤ 2 * ps.length := by
  unfold nbs
  induction ps with
  | nil => simp
  | cons b r ih =>
    rw [List.flatMap_cons, List.length_append, List.length_append, List.length_cons]
    have h1 : (if b.1 = x then [b.2] else []).length ≤ 1 := by split <;> simp
    have h2 : (if b.2 = x then [b.1] else []).length ≤ 1 := by split <;> simp
    omega
theorem addN_len {f : Int → List Int} {x z : Int} {n : Nat} (h : ∀ y, (f y).length ≤ n) (y : Int) : (addN f x z y).length ≤ n + 1 := by
  unfold addN
  split
  · rw [List.length_append]
    have := h y
    simp
    omega
  · have := h y
    omega
/-! ### roads, grown step by step -/
inductive Road (ps : List (Int × Int)) (one : Int) : List Int → Int → Prop
  | here : Road ps one [one] one
  | step {l : List Int} {x y : Int} : Road ps one l x → adj ps x y → y ∉ l → Road ps one (l ++ [y]) y
theorem Road.ne {ps : List (Int × Int)} {one x : Int} {l : List Int} (h : Road ps one l x) : l ≠ [] := by
  cases h <;> simp
theorem Road.nodup {ps : List (Int × Int)} {one x : Int} {l : List Int} (h : Road ps one l x) : l.Nodup := by
  induction h with
  | here => simp
  | step h a n ih =>
    rw [List.nodup_append]
    refine ⟨ih, by simp, fun a ha b hb => ?_⟩
    rw [List.mem_singleton] at hb
    subst hb
    exact fun e => n (e ▸ ha)
/-! ### a row that is grown from its first -/
def Grown (ps : List (Int × Int)) (row : List Int) : Prop := ∀ (j : Nat) (z : Int), 1 ≤ j → row[j]? = some z → ∃ (i : Nat) (u : Int), i < j ∧ row[i]? = some u ∧ adj ps u z
def Shut (ps : List (Int × Int)) (row : List Int) : Prop := ∀ x ∈ row, ∀ z, adj ps x z → z ∈ row
/-- the first k of the row have all their neighbours in it -/
def ShutTo (ps : List (Int × Int)) (row : List Int) (k : Nat) : Prop := ∀ i, i < k → ∀ x, row[i]? = some x → ∀ z, adj ps x z → z ∈ row
theorem grown_one (ps : List (Int × Int)) (x : Int) : Grown ps [x] := fun j z h1 h2 => by
  have q := (List.getElem?_eq_some_iff.mp h2).1
  simp at q
  omega
theorem grown_snoc {ps : List (Int × Int)} {row : List Int} {x y : Int} {i : Nat} (h : Grown ps row) (hi : row[i]? = some x) (a : adj ps x y) : Grown ps (row ++ [y]) := fun j z h1 h2 => by
  have hil := (List.getElem?_eq_some_iff.mp hi).1
  by_cases c : j < row.length
  · rw [List.getElem?_append_left c] at h2
    obtain ⟨i', u, q1, q2, q3⟩ := h j z h1 h2
    exact ⟨i', u, q1, by rw [List.getElem?_append_left (by omega)]; exact q2, q3⟩
  · have c2 := (List.getElem?_eq_some_iff.mp h2).1
    rw [List.length_append, List.length_singleton] at c2
    have e : j = row.length := by omega
    subst e
    have e2 : y = z := by simpa using h2
    subst e2
    exact ⟨i, x, hil, by rw [List.getElem?_append_left hil]; exact hi, a⟩
theorem shutTo_snoc {ps : List (Int × Int)} {row : List Int} {k : Nat} {y : Int} (h : ShutTo ps row k) (hk : k ≤ row.length) : ShutTo ps (row ++ [y]) k := fun i hi x hx z a => by
  rw [List.getElem?_append_left (by omega)] at hx
  exact List.mem_append_left _ (h i hi x hx z a)
theorem shut_of {ps : List (Int × Int)} {row : List Int} (h : ShutTo ps row row.length) : Shut ps row := fun x hx z a => by
  obtain ⟨i, hi, e⟩ := List.mem_iff_getElem.mp hx
  exact h i hi x (by rw [List.getElem?_eq_getElem hi, e]) z a
/-! ### the places of a law, turned round -/
def rotL (t size : Int) : Nat → List Int
  | 0 => []
  | i + 1 => rotL t size i ++ [called ((t + i) % size)]
theorem rotL_len (t size : Int) : ∀ n : Nat, (rotL t size n).length = n
  | 0 => rfl
  | n + 1 => by simp [rotL, rotL_len t size n]
theorem adj_in {ps : List (Int × Int)} {B : List Int} (h : ∀ b ∈ ps, b.1 ∈ B ∧ b.2 ∈ B) {x z : Int} (a : adj ps x z) : z ∈ B := by
  rcases a with a | a
  · exact (h _ a).2
  · exact (h _ a).1
end HW
end
section
set_option maxRecDepth 100000
namespace HW
/-! ### groups -/
structure RowOk (ps : List (Int × Int)) (B row : List Int) : Prop where
  ne : row ≠ []
  grown : Grown ps row
  shut : Shut ps row
  nd : row.Nodup
  sub : ∀ z ∈ row, z ∈ B
  least : ∀ (j : Nat) (z : Int), 1 ≤ j → row[j]? = some z → row.getD 0 0 < z
/-- the rows that have been found behind the places of done -/
structure Grps (ps : List (Int × Int)) (B don : List Int) (rows : List (List Int)) : Prop where
  each : ∀ r ∈ rows, RowOk ps B r
  nd : rows.flatten.Nodup
  up : rows.Pairwise fun r r' => r.getD 0 0 < r'.getD 0 0
  from_ : ∀ r ∈ rows, r.getD 0 0 ∈ don
  all : ∀ z ∈ don, z ∈ rows.flatten
end HW
end
section
set_option Elab.async false
set_option linter.all false
set_option maxRecDepth 100000
namespace L2
open PySem PySem.Spec PyProof.Rows

/-! ### lists of pairs as tables -/
section
variable {κ : Type} [DecidableEq κ]
def valV (kvs : List (κ × V)) (k : κ) : Option V := (kvs.find? fun kv => decide (kv.1 = k)).map (·.2)
/-- in its place, or at the end -/
def putK (kvs : List (κ × V)) (k : κ) (v : V) : List (κ × V) :=
  if (kvs.any fun kv => decide (kv.1 = k)) = true then kvs.map (fun kv => if kv.1 = k then (kv.1, v) else kv) else kvs ++ [(k, v)]
def dropK (kvs : List (κ × V)) (k : κ) : List (κ × V) := kvs.filter fun kv => decide (kv.1 ≠ k)

theorem valV_pos {p : κ × V} {r : List (κ × V)} {k : κ} (e : p.1 = k) : valV (p :: r) k = some p.2 := by simp [valV, List.find?_cons, e]
theorem valV_neg {p : κ × V} {r : List (κ × V)} {k : κ} (e : ¬ p.1 = k) : valV (p :: r) k = valV r k := by simp [valV, List.find?_cons, e]
theorem valV_any (k : κ) : ∀ kvs : List (κ × V), (kvs.any fun kv => decide (kv.1 = k)) = (valV kvs k).isSome
  | [] => rfl
  | p :: r => by
    rw [List.any_cons]
    by_cases e : p.1 = k
    · simp only [valV_pos e, decide_eq_true e, Bool.true_or, Option.isSome_some]
    · rw [valV_neg e, decide_eq_false e, Bool.false_or]; exact valV_any k r
theorem valV_map (k j : κ) (y : V) : ∀ kvs : List (κ × V), valV (kvs.map fun kv => if kv.1 = k then (kv.1, y) else kv) j = (valV kvs j).map fun x => if j = k then y else x
  | [] => rfl
  | p :: r => by
    have ih := valV_map k j y r
    rw [List.map_cons]
    by_cases h : p.1 = k
    · rw [if_pos h]
      by_cases e : p.1 = j
      · rw [valV_pos (p := (p.1, y)) e, valV_pos e, Option.map_some, if_pos (e.symm.trans h)]
      · rw [valV_neg (p := (p.1, y)) e, valV_neg e, ih]
    · rw [if_neg h]
      by_cases e : p.1 = j
      · rw [valV_pos (p := p) e, valV_pos e, Option.map_some, if_neg (fun z => h (e.trans z))]
      · rw [valV_neg (p := p) e, valV_neg e, ih]
theorem valV_snoc (k j : κ) (y : V) : ∀ kvs : List (κ × V), valV kvs k = none → valV (kvs ++ [(k, y)]) j = if j = k then some y else valV kvs j
  | [], _ => by
    by_cases e : k = j
    · rw [if_pos e.symm]; exact valV_pos (p := (k, y)) e
    · rw [if_neg (fun z => e z.symm)]; exact valV_neg (p := (k, y)) e
  | p :: r, hn => by
    rw [List.cons_append]
    have hk : ¬ p.1 = k := fun z => by rw [valV_pos z] at hn; cases hn
    rw [valV_neg hk] at hn
    have ih := valV_snoc k j y r hn
    by_cases e : p.1 = j
    · rw [valV_pos e, valV_pos e, if_neg (fun z => hk (e.trans z))]
    · rw [valV_neg e, valV_neg e, ih]
theorem valV_put (kvs : List (κ × V)) (k j : κ) (y : V) : valV (putK kvs k y) j = if j = k then some y else valV kvs j := by
  unfold putK
  by_cases a : (kvs.any fun kv => decide (kv.1 = k)) = true
  · rw [if_pos a, valV_map]
    rw [valV_any] at a
    by_cases e : j = k
    · obtain ⟨x, hx⟩ := Option.isSome_iff_exists.mp a
      rw [if_pos e, e, hx, Option.map_some, if_pos rfl]
    · rw [if_neg e]
      cases valV kvs j with
      | none => rfl
      | some x => rw [Option.map_some, if_neg e]
  · rw [if_neg a]
    refine valV_snoc k j y kvs ?_
    rw [valV_any] at a
    cases q : valV kvs k with
    | none => rfl
    | some x => rw [q] at a; exact (a rfl).elim
theorem length_putK (kvs : List (κ × V)) (k : κ) (v : V) : (putK kvs k v).length ≤ kvs.length + 1 := by
  unfold putK
  split
  · rw [List.length_map]; omega
  · rw [List.length_append, List.length_cons, List.length_nil]; omega
theorem putK_new {kvs : List (κ × V)} {k : κ} (v : V) (h : valV kvs k = none) : putK kvs k v = kvs ++ [(k, v)] := by
  unfold putK
  rw [valV_any, h]
  exact if_neg (by decide)

theorem RelO.isSome_eq {o : Option V} {u : Option Value} (r : RelO o u) : o.isSome = u.isSome := by
  cases o with
  | none => cases u with
    | none => rfl
    | some _ => exact (show False from r).elim
  | some _ => cases u with
    | none => exact (show False from r).elim
    | some _ => rfl
theorem RelO.getD {o : Option V} {u : Option Value} {d : V} {d' : Value} (r : RelO o u) (rd : RelV d d') : RelV (o.getD d) (u.getD d') := by
  cases o with
  | none => cases u with
    | none => exact rd
    | some _ => exact (show False from r).elim
  | some _ => cases u with
    | none => exact (show False from r).elim
    | some _ => exact r

/-- raw tables of the same keys -/
theorem KV.val {kvs : List (κ × V)} {vs : List (κ × Value)} (r : KV kvs vs) (k : κ) : RelO (valV kvs k) (valueAt vs k) := by
  unfold KV at r
  induction r with
  | nil => exact True.intro
  | @cons p q ps qs h t ih =>
    obtain ⟨h1, h2⟩ := h
    by_cases e : p.1 = k
    · have e' : q.1 = k := h1.symm.trans e
      have b : valueAt (q :: qs) k = some q.2 := by simp [valueAt, List.find?_cons, e']
      rw [valV_pos e, b]; exact h2
    · have e' : ¬ q.1 = k := fun z => e (h1.trans z)
      have b : valueAt (q :: qs) k = valueAt qs k := by simp [valueAt, List.find?_cons, e']
      rw [valV_neg e, b]; exact ih
theorem KV.any {kvs : List (κ × V)} {vs : List (κ × Value)} (r : KV kvs vs) (k : κ) : (kvs.any fun kv => decide (kv.1 = k)) = vs.any fun kv => decide (kv.1 = k) := by
  unfold KV at r
  induction r with
  | nil => rfl
  | cons h t ih => rw [List.any_cons, List.any_cons, ih, h.1]
theorem KV.repl {kvs : List (κ × V)} {vs : List (κ × Value)} (r : KV kvs vs) (k : κ) {y : V} {u : Value} (ry : RelV y u) :
    KV (kvs.map fun kv => if kv.1 = k then (kv.1, y) else kv) (vs.map fun kv => if kv.1 = k then (kv.1, u) else kv) := by
  unfold KV at r ⊢
  induction r with
  | nil => exact .nil
  | @cons p q ps qs h t ih =>
    rw [List.map_cons, List.map_cons]
    refine .cons ?_ ih
    obtain ⟨h1, h2⟩ := h
    by_cases e : p.1 = k
    · rw [if_pos e, if_pos (h1.symm.trans e)]; exact ⟨h1, ry⟩
    · rw [if_neg e, if_neg (fun z => e (h1.trans z))]; exact ⟨h1, h2⟩
theorem KV.put {kvs : List (κ × V)} {vs : List (κ × Value)} (r : KV kvs vs) (k : κ) {y : V} {u : Value} (ry : RelV y u) : KV (putK kvs k y) (stored vs k u) := by
  unfold putK stored
  rw [r.any k]
  by_cases e : (vs.any fun kv => decide (kv.1 = k)) = true
  · rw [if_pos e, if_pos e]; exact r.repl k ry
  · rw [if_neg e, if_neg e]; exact Paired.snoc r ⟨rfl, ry⟩
theorem KV.length {kvs : List (κ × V)} {vs : List (κ × Value)} (r : KV kvs vs) : kvs.length = vs.length := Paired.length r
end


/-! ### a tracked dict, its keys ints and texts or tuples of these -/
theorem kV_is {P : Program} {w : World} {k : Key} {u : Value} (r : RelV (kV k) u) : (mixKind P w).is k u = true := by
  cases k with
  | inl i => obtain ⟨t, e⟩ := (show ∃ t, u = Value.int i t from r); subst e; exact mixKind_int P w i t
  | inr x => obtain ⟨t, e⟩ := (show ∃ t, u = Value.str x t from r); subst e; exact mixKind_str P w x t
theorem items_are {P : Program} {w : World} : ∀ {ks : List Key} {us : List Value}, Vals (ks.map kV) us → ItemsAre (mixKind P w) ks us
  | [], _, r => by rw [List.map_nil] at r; cases r; exact .nil
  | k :: ks, _, r => by
    rw [List.map_cons] at r
    cases r with
    | cons h t => exact .cons (kV_is h) (items_are t)

/-- raw entries of a dict with tuple keys -/
abbrev KT (H : Hp) : List (List Key × V) → List (List Key × Addr × Value) → Prop := Paired fun p q => p.1 = q.1 ∧ H q.2.1 = some (.tup (p.1.map kV)) ∧ RelV p.2 q.2.2
theorem KT.val {H : Hp} {kvs : List (List Key × V)} {xs : List (List Key × Addr × Value)} (r : KT H kvs xs) (k : List Key) : RelO (valV kvs k) ((atKey xs k).map (·.2)) := by
  induction r with
  | nil => exact True.intro
  | @cons p q ps qs h t ih =>
    obtain ⟨h1, _, h2⟩ := h
    by_cases e : p.1 = k
    · have e' : q.1 = k := h1.symm.trans e
      have b : atKey (q :: qs) k = some q.2 := by simp [atKey, List.find?_cons, e']
      rw [valV_pos e, b]; exact h2
    · have e' : ¬ q.1 = k := fun z => e (h1.trans z)
      have b : atKey (q :: qs) k = atKey qs k := by simp [atKey, List.find?_cons, e']
      rw [valV_neg e, b]; exact ih
theorem KT.repl {H : Hp} {kvs : List (List Key × V)} {xs : List (List Key × Addr × Value)} (r : KT H kvs xs) (k : List Key) {y : V} {u : Value} (ry : RelV y u) :
    KT H (kvs.map fun kv => if kv.1 = k then (kv.1, y) else kv) (xs.map (putAt k u)) := by
  induction r with
  | nil => exact .nil
  | @cons p q ps qs h t ih =>
    rw [List.map_cons, List.map_cons]
    refine .cons ?_ ih
    obtain ⟨h1, h2, h3⟩ := h
    unfold putAt
    by_cases e : p.1 = k
    · rw [if_pos e, if_pos (h1.symm.trans e)]; exact ⟨h1, h2, ry⟩
    · rw [if_neg e, if_neg (fun z => e (h1.trans z))]; exact ⟨h1, h2, h3⟩
theorem KT.put {H : Hp} {kvs : List (List Key × V)} {xs : List (List Key × Addr × Value)} (r : KT H kvs xs) (k : List Key) {b : Addr} {y : V} {u : Value} (hb : H b = some (.tup (k.map kV))) (ry : RelV y u) :
    KT H (putK kvs k y) (storedH xs k b u) := by
  have e : (kvs.any fun kv => decide (kv.1 = k)) = (atKey xs k).isSome := by
    rw [valV_any, (r.val k).isSome_eq, Option.isSome_map]
  unfold putK storedH
  rw [e]
  by_cases q : (atKey xs k).isSome = true
  · rw [if_pos q, if_pos q]; exact r.repl k ry
  · rw [if_neg q, if_neg q]; exact Paired.snoc r ⟨rfl, hb, ry⟩
theorem KT.keeps {H H' : Hp} {kvs : List (List Key × V)} {xs : List (List Key × Addr × Value)} (r : KT H kvs xs) (ht : ∀ b ys, H b = some (.tup ys) → H' b = some (.tup ys)) : KT H' kvs xs :=
  Paired.mapP r fun _ _ z => ⟨z.1, ht _ _ z.2.1, z.2.2⟩

section
variable {P : Program} {w : World} {H : Hp} {h : Heap} {a : Addr}
theorem rd_of {u : HO} (ok : HOk P w H h) (e : Rd H a u) : ObjOk P w H h a u := e.ok ok
theorem dk_rd {kvs : List (Key × V)} (ok : HOk P w H h) (e : Rd H a (.dK kvs)) : kvs.length ≤ sizeLine ∧ (a == sysModules) = false ∧ ∃ vs, KV kvs vs ∧ h.DictOf (mixKind P w) a vs :=
  show ObjOk P w H h a (.dK kvs) from rd_of ok e
theorem dk_of {kvs : List (Key × V)} (ok : HOk P w H h) (e : H a = some (.dK kvs)) : kvs.length ≤ sizeLine ∧ (a == sysModules) = false ∧ ∃ vs, KV kvs vs ∧ h.DictOf (mixKind P w) a vs := dk_rd ok (.inl e)
/-- a tracked tuple of ints and texts is a key -/
theorem key_of {ks : List Key} (ok : HOk P w H h) (e : H a = some (.tup (ks.map kV))) : (tupleKind (mixKind P w)).is h ks a := by
  obtain ⟨_, its, r, o, h1, h2, n, h3⟩ := (show ObjOk P w H h a (.tup (ks.map kV)) from ok a _ e)
  exact ⟨o, its.toArray, n, h1, h2, h3, by simpa using items_are r⟩
theorem dt_rd {kvs : List (List Key × V)} (ok : HOk P w H h) (e : Rd H a (.dT kvs)) : kvs.length ≤ sizeLine ∧ (a == sysModules) = false ∧
    ∃ xs, KT H kvs xs ∧ h.DictOfH (tupleKind (mixKind P w)) a xs := by
  obtain ⟨z, y, xs, r, o, es, ep, h1, h2, h3, h4, h5⟩ := (show ObjOk P w H h a (.dT kvs) from rd_of ok e)
  refine ⟨z, y, xs, r, o, es, ep, h1, h2, h3, h4, fun x hx => ?_, h5⟩
  have all : ∀ {l : List (List Key × V)} {m : List (List Key × Addr × Value)}, KT H l m → ∀ x ∈ m, (tupleKind (mixKind P w)).is h x.1 x.2.1 := by
    intro l m q
    induction q with
    | nil => intro x hx; exact nomatch hx
    | @cons p q ps qs hq t ih =>
      intro x hx
      rcases List.mem_cons.mp hx with e | hx
      · subst e
        exact key_of ok (by rw [← hq.1]; exact hq.2.1)
      · exact ih x hx
  exact all r x hx
theorem dt_of {kvs : List (List Key × V)} (ok : HOk P w H h) (e : H a = some (.dT kvs)) : kvs.length ≤ sizeLine ∧ (a == sysModules) = false ∧
    ∃ xs, KT H kvs xs ∧ h.DictOfH (tupleKind (mixKind P w)) a xs := dt_rd ok (.inl e)
end

/-- what the dict at a holds at the key y -/
def DGet (H : Hp) (a : Addr) (y : V) (r : Option V) : Prop :=
  (∃ kvs k, Rd H a (.dK kvs) ∧ y = kV k ∧ r = valV kvs k) ∨ ∃ kvs k b, Rd H a (.dT kvs) ∧ y = .ref b ∧ H b = some (.tup (k.map kV)) ∧ r = valV kvs k
/-- the heap behind a[y] = v -/
def DPut (H : Hp) (a : Addr) (y v : V) (H' : Hp) : Prop :=
  (∃ kvs k, H a = some (.dK kvs) ∧ y = kV k ∧ kvs.length < sizeLine ∧ H' = upd H a (.dK (putK kvs k v))) ∨
  ∃ kvs k b, H a = some (.dT kvs) ∧ y = .ref b ∧ H b = some (.tup (k.map kV)) ∧ kvs.length < sizeLine ∧ H' = upd H a (.dT (putK kvs k v))
theorem DGet.k {H : Hp} {a : Addr} {kvs : List (Key × V)} {k : Key} (e : H a = some (.dK kvs)) : DGet H a (kV k) (valV kvs k) := .inl ⟨kvs, k, .inl e, rfl, rfl⟩
theorem DPut.k {H : Hp} {a : Addr} {kvs : List (Key × V)} {k : Key} {v : V} (e : H a = some (.dK kvs)) (hl : kvs.length < sizeLine) : DPut H a (kV k) v (upd H a (.dK (putK kvs k v))) := .inl ⟨kvs, k, e, rfl, hl, rfl⟩
section
variable {X : Cx} {pins : List (Addr × Obj)} {σ : St} {H : Hp} {s : Shared} {a : Addr} {y v : V} {u r : Value} {o : Option V} {A : Around} {E : Value → Shared → Prop}

theorem Inv.big (I : Inv X pins σ H s) : sysModules < s.heap.objs.size := by
  have h : mainGlobals < s.heap.objs.size := (I.mod.glob.keeps I.bk).lt
  exact Nat.lt_trans (by decide) h

/-- d[y], there -/
theorem d_getItem {Q : Value → Shared → Prop} (hu : A.units + 1 < cLine) (I : Inv X pins σ H s) (g : DGet H a y (some v)) (ry : RelV y u) (h : ∀ w' s', Inv X pins σ H s' → RelV v w' → Q w' s') :
    wpAny (model X.prog X.w) A (getItem (.ref a) u) Q E s := by
  rcases g with ⟨kvs, k, e, ey, l⟩ | ⟨kvs, k, b, e, ey, eb, l⟩
  · subst ey
    obtain ⟨z, hd, vs, rel, dd⟩ := dk_rd I.hok e
    obtain ⟨w', hw, rw'⟩ := RelO.some_of (v := v) (o := valueAt vs k) (by rw [l]; exact rel.val k)
    exact wpAny_getItem_of (kV_is ry) dd.mapOf hw (h w' _ (I.tok _) rw')
  · subst ey
    cases (show u = Value.ref b from ry)
    obtain ⟨z, hd, xs, rel, dd⟩ := dt_rd I.hok e
    obtain ⟨w', hw, rw'⟩ := RelO.some_of (v := v) (o := (atKey xs k).map (·.2)) (by rw [l]; exact rel.val k)
    obtain ⟨p, hp, hp2⟩ := Option.map_eq_some_iff.mp hw
    refine wpAny_getItem_heap (tupleKind_room_in1 hu) (key_of I.hok eb) dd hp ?_
    rw [hp2]
    exact h w' _ (I.tok _) rw'
/-- y in d -/
theorem d_in {Q : Value → Shared → Prop} (hu : A.units + 1 < cLine) (I : Inv X pins σ H s) (g : DGet H a y o) (ry : RelV y u) (h : ∀ s', Inv X pins σ H s' → Q (.bool o.isSome) s') :
    wpAny (model X.prog X.w) A (compareOp .In u (.ref a)) Q E s := by
  rcases g with ⟨kvs, k, e, ey, l⟩ | ⟨kvs, k, b, e, ey, eb, l⟩
  · subst ey
    obtain ⟨z, hd, vs, rel, dd⟩ := dk_rd I.hok e
    refine wpAny_in_of (kV_is ry) hd dd.mapOf ?_
    rw [← (rel.val k).isSome_eq, ← l]
    exact h _ (I.tok _)
  · subst ey
    cases (show u = Value.ref b from ry)
    obtain ⟨z, hd, xs, rel, dd⟩ := dt_rd I.hok e
    refine wpAny_in_heap (tupleKind_room_in1 hu) (key_of I.hok eb) hd dd ?_
    have q := (rel.val k).isSome_eq
    rw [Option.isSome_map] at q
    rw [← q, ← l]
    exact h _ (I.tok _)
theorem d_notIn {Q : Value → Shared → Prop} (hu : A.units + 1 < cLine) (I : Inv X pins σ H s) (g : DGet H a y o) (ry : RelV y u) (h : ∀ s', Inv X pins σ H s' → Q (.bool (!o.isSome)) s') :
    wpAny (model X.prog X.w) A (compareOp .NotIn u (.ref a)) Q E s := by
  rcases g with ⟨kvs, k, e, ey, l⟩ | ⟨kvs, k, b, e, ey, eb, l⟩
  · subst ey
    obtain ⟨z, hd, vs, rel, dd⟩ := dk_rd I.hok e
    refine wpAny_notIn_of (kV_is ry) hd dd.mapOf ?_
    rw [← (rel.val k).isSome_eq, ← l]
    exact h _ (I.tok _)
  · subst ey
    cases (show u = Value.ref b from ry)
    obtain ⟨z, hd, xs, rel, dd⟩ := dt_rd I.hok e
    refine wpAny_notIn_heap (tupleKind_room_in1 hu) (key_of I.hok eb) hd dd ?_
    have q := (rel.val k).isSome_eq
    rw [Option.isSome_map] at q
    rw [← q, ← l]
    exact h _ (I.tok _)
/-- a dict's object is replaced -/
theorem d_write {h' : Heap} {t' : Nat} {ob : HO} (I : Inv X pins σ H s) (mu : Mut (H a)) (hs : Heap.SameBut a s.heap h') (he : ∃ q, h'.get? a = some q) (new : ObjOk X.prog X.w (upd H a ob) h' a ob) :
    Inv X pins σ (upd H a ob) { s with heap := h', toks := t' } :=
  I.write (x := a) (e := a) mu (.inl rfl) (fun b q hb z => (hs.2 b hb).trans z) he new
theorem dk_new {P : Program} {w : World} {H' : Hp} {h' : Heap} {kvs : List (Key × V)} {vs : List (Key × Value)} (z : kvs.length ≤ sizeLine) (hd : (a == sysModules) = false) (rel : KV kvs vs) (dd : h'.DictOf (mixKind P w) a vs) :
    ObjOk P w H' h' a (.dK kvs) := ⟨z, hd, vs, rel, dd⟩
/-- d[y] = v -/
theorem d_setItem {H' : Hp} {Q : Unit → Shared → Prop} (hu : A.units + 1 < cLine) (I : Inv X pins σ H s) (g : DPut H a y v H') (ry : RelV y u) (rv : RelV v r) (h : ∀ s', Inv X pins σ H' s' → Q () s') :
    wpAny (model X.prog X.w) A (setItem (.ref a) u r) Q E s := by
  rcases g with ⟨kvs, k, e, ey, l, eH⟩ | ⟨kvs, k, b, e, ey, eb, l, eH⟩
  · subst ey eH
    obtain ⟨z, hd, vs, rel, dd⟩ := dk_of I.hok e
    have hz : vs.length ≤ sizeLine := by rw [← rel.length]; exact z
    have hl : (putK kvs k v).length ≤ sizeLine := by have := length_putK kvs k v; omega
    refine wpAny_setItem_pairs (hsz := hz) (kV_is ry) dd fun h' dd' hs => h _ ?_
    have he : ∃ q, h'.get? a = some q := let ⟨q, _, _, hq, _⟩ := dd'; ⟨q, hq⟩
    exact d_write I (by rw [e]; exact True.intro) hs he (dk_new hl hd (rel.put k rv) dd')
  · subst ey eH
    cases (show u = Value.ref b from ry)
    obtain ⟨z, hd, xs, rel, dd⟩ := dt_of I.hok e
    have hz : xs.length ≤ sizeLine := by rw [← Paired.length rel]; exact z
    have hl : (putK kvs k v).length ≤ sizeLine := by have := length_putK kvs k v; omega
    refine wpAny_setItem_heap (hsz := hz) (tupleKind_room_in1 hu) (key_of I.hok eb) dd fun h' dd' hs => h _ ?_
    obtain ⟨q, es, ep, hq, h2, h3, h4, _, h5⟩ := dd'
    refine d_write I (by rw [e]; exact True.intro) hs ⟨q, hq⟩ ⟨hl, hd, _, (rel.put k eb rv).keeps fun c ys ec => ?_, q, es, ep, hq, h2, h3, h4, h5⟩
    rw [upd_ne (ne_of ec e (fun z => nomatch z))]
    exact ec
end

section
variable {X : Cx} {pins : List (Addr × Obj)} {σ : St} {H : Hp} {s : Shared} {a : Addr} {kvs : List (Key × V)} {k : Key} {u : Value} {A : Around} {E : Value → Shared → Prop}
end


/-! ### readings and rules -/
/-- the element of a subscription, not a slice -/
def NoSl (i : Expr) : Prop := ∀ ov iv, subscripted i false ov iv = operate [ov, iv] (getItem ov iv)
theorem subD_of {prog : Program} {w : World} {A : Around} {E : Value → Shared → Prop} {s : Shared} {env : Env} {value slice : Expr} {pos : Pos} {T id : String} {Q : Value → Shared → Prop}
    (hl : typeLookup (.type T) "__getitem__" = pure (some (.builtin id))) (hs : NoSl slice)
    (h : wpAny (model prog w) A (eval value env) (fun o s₁ => wpAny (model prog w) A (eval slice env) (fun i s₂ => s₂.TypeIs o T ∧ wpAny (model prog w) A (getItem o i) Q E s₂) E s₁) E s) :
    wpAny (model prog w) A (eval (.Subscript value slice pos) env) Q E s := by
  refine Subscript_ (wpAny_mono h (fun o s₁ h₁ => wpAny_mono h₁ (fun i s₂ h₂ => ?_) fun _ _ x => x) fun _ _ x => x)
  obtain ⟨hT, h₂⟩ := h₂
  unfold subscriptTail
  refine wpAny_bind ?_
  rw [getitemInPython_of_ne hT.not_modules]
  refine wpAny_bind (wpAny_specialOf hT hl ?_)
  have fin : wpAny (model prog w) A (subscripted slice false o i) (fun r s₃ => wpAny (model prog w) A (letTemporaryGo value o r >>= fun _ => pure r) Q E s₃) E s₂ := by
    rw [hs o i]
    exact wpAny_operating (wpAny_mono h₂ (fun r s₃ h₃ => wpAny_bind (wpAny_letTemporaryGo (wpAny_pure h₃))) fun _ _ x => x)
  first
    | exact wpAny_pure (wpAny_bind fin)
    | exact wpAny_bind (wpAny_pure (wpAny_bind fin))
    | exact wpAny_bind fin

theorem dict_typeIs {X : Cx} {pins : List (Addr × Obj)} {σ : St} {H : Hp} {s : Shared} {a : Addr} {y : V} {o : Option V} (I : Inv X pins σ H s) (g : DGet H a y o) : s.TypeIs (.ref a) "dict" := by
  rcases g with ⟨kvs, k, e, _, _⟩ | ⟨kvs, k, b, e, _, _, _⟩
  · obtain ⟨_, _, vs, _, dd⟩ := dk_rd I.hok e
    exact dd.typeIs
  · obtain ⟨_, _, xs, _, dd⟩ := dt_rd I.hok e
    exact dd.typeIs
/-- d[y] -/
def tDGet (td ty : TE) : TE := fun σ H Q => td σ H fun x H1 => ty σ H1 fun y H2 => ∃ a v, x = .ref a ∧ DGet H2 a y (some v) ∧ Q v H2
/-- y in d, y not in d -/
def tDIn (ty td : TE) : TE := fun σ H Q => ty σ H fun y H1 => td σ H1 fun x H2 => ∃ a o, x = .ref a ∧ DGet H2 a y o ∧ Q (.bl o.isSome) H2
def tDNotIn (ty td : TE) : TE := fun σ H Q => ty σ H fun y H1 => td σ H1 fun x H2 => ∃ a o, x = .ref a ∧ DGet H2 a y o ∧ Q (.bl (!o.isSome)) H2
/-- d[y] = v -/
def sDPut (td ty tv : TE) : TS := fun D σ H => tv σ H fun v H1 => td σ H1 fun x H2 => ty σ H2 fun y H3 => ∃ a H4, x = .ref a ∧ DPut H3 a y v H4 ∧ D.nx σ H4
/-- d[y] op= v -/
def sDAug (td ty tv : TE) (rd : V → V → Hp → VK → Prop) : TS := fun D σ H => td σ H fun x H1 => ty σ H1 fun y H2 => ∃ a v, x = .ref a ∧ DGet H2 a y (some v) ∧
  tv σ H2 fun y2 H3 => rd v y2 H3 fun z H4 => ∃ H5, DPut H4 a y z H5 ∧ D.nx σ H5
/-- del d[y] -/
def sDDel (td ty : TE) : TS := fun D σ H => td σ H fun x H1 => ty σ H1 fun y H2 => ∃ a kvs k, x = .ref a ∧ H2 a = some (.dK kvs) ∧ y = kV k ∧ (valV kvs k).isSome = true ∧ D.nx σ (upd H2 a (.dK (dropK kvs k)))

section
variable {X : Cx} {o i e value : Expr} {pos pos' tpos : Pos} {td ty tv : TE}
theorem pe_dget (hu : X.A.units + 1 < cLine) (ho : PE X o td) (hi : PE X i ty) (hs : NoSl i) : PE X (.Subscript o i pos) (tDGet td ty) := by
  intro pins s σ H Q I h
  refine subD_of PySem.F.slot_dict_getitem.lookup hs (thn (ho pins s σ H _ I h) fun u s1 ⟨x, H1, I1, rx, q1⟩ => thn (hi pins s1 σ H1 _ I1 q1) fun iv s2 ⟨y, H2, I2, ry, a, v, ex, g, q2⟩ => ?_)
  subst ex
  obtain rfl : u = Value.ref a := rx
  exact ⟨dict_typeIs I2 g, d_getItem hu I2 g ry fun w' s3 I3 rw' => ⟨v, H2, I3, rw', q2⟩⟩
theorem pc_din (hu : X.A.units + 1 < cLine) (hi : PE X i ty) (ho : PE X o td) : PC X .In i o (tDIn ty td) := by
  intro pins s σ H Q I h
  refine thn (hi pins s σ H _ I h) fun iv s1 ⟨y, H1, I1, ry, q1⟩ => thn (ho pins s1 σ H1 _ I1 q1) fun u s2 ⟨x, H2, I2, rx, a, ov, ex, g, q2⟩ => ?_
  subst ex
  obtain rfl : u = Value.ref a := rx
  exact d_in hu I2 g ry fun s3 I3 => ⟨.bl ov.isSome, H2, I3, rfl, q2⟩
theorem pc_dnotin (hu : X.A.units + 1 < cLine) (hi : PE X i ty) (ho : PE X o td) : PC X .NotIn i o (tDNotIn ty td) := by
  intro pins s σ H Q I h
  refine thn (hi pins s σ H _ I h) fun iv s1 ⟨y, H1, I1, ry, q1⟩ => thn (ho pins s1 σ H1 _ I1 q1) fun u s2 ⟨x, H2, I2, rx, a, ov, ex, g, q2⟩ => ?_
  subst ex
  obtain rfl : u = Value.ref a := rx
  exact d_notIn hu I2 g ry fun s3 I3 => ⟨.bl (!ov.isSome), H2, I3, rfl, q2⟩
theorem ps_dput (hu : X.A.units + 1 < cLine) (ho : PE X o td) (hi : PE X i ty) (hv : PE X value tv) (hs : swapsWith value (some (.Subscript o i pos')) pos.line X.env = pure false) :
    PS X (.Assign [.Subscript o i pos'] value pos) (sDPut td ty tv) := by
  intro pins s σ H D I h
  refine wpAny_Assign_Subscript (thn (hv pins s σ H _ I h) fun r s1 ⟨v, H1, I1, rv, q1⟩ => thn (ho pins s1 σ H1 _ I1 q1) fun u s2 ⟨x, H2, I2, rx, q2⟩ => thn (hi pins s2 σ H2 _ I2 q2) fun iv s3 ⟨y, H3, I3, ry, a, H4, ex, g, q3⟩ => ?_) hs
  subst ex
  obtain rfl : u = Value.ref a := rx
  exact d_setItem hu I3 g ry rv fun s4 I4 => ⟨σ, H4, I4, q3⟩
end


/-! ### displays -/
theorem dk_empty {P : Program} {w : World} {H : Hp} (h : Heap) (hb : sysModules < h.objs.size) : ObjOk P w H (h.push { cls := .type "dict", data := .dict #[] }) h.objs.size (.dK []) :=
  ⟨Nat.zero_le _, beq_eq_false_iff_ne.mpr (Ne.symm (Nat.ne_of_lt hb)), [], .nil, Heap.DictOf.new h⟩
/-- {}, to be a dict of the kind that is wanted -/
def tDNewK : TE := fun _ H Q => ∀ p, H p = none → Q (.ref p) (upd H p (.dK []))
def tDNewT : TE := fun _ H Q => ∀ p, H p = none → Q (.ref p) (upd H p (.dT []))
section
variable {X : Cx} {pos : Pos}
theorem pe_dnewK : PE X (.Dict [] [] pos) tDNewK := fun pins s σ H Q I h =>
  wpAny_Dict_empty ⟨.ref s.heap.objs.size, _, I.laid (a := s.heap.objs.size) (o := .dK []) (t' := s.toks) (fun _ _ q => Heap.get?_push_of_some _ q) (Nat.le_refl _) (dk_empty s.heap I.big), rfl, h _ (I.hok.fresh (Nat.le_refl _))⟩
end

/-- the pairs of a display, from the left -/
def tPairs : List (TE × TE) → St → Hp → (List (V × V) → Hp → Prop) → Prop
  | [], _, H, Q => Q [] H
  | (tk, tv) :: r, σ, H, Q => tk σ H fun x H1 => tv σ H1 fun y H2 => tPairs r σ H2 fun ps H3 => Q ((x, y) :: ps) H3
abbrev VV : List (V × V) → List (Value × Value) → Prop := Paired fun p q => RelV p.1 q.1 ∧ RelV p.2 q.2
def PPs (X : Cx) (pos : Pos) (keys : List (Option Expr)) (values : List Expr) (trs : List (TE × TE)) : Prop :=
  ∀ (pins : List (Addr × Obj)) (s : Shared) (σ : St) (H : Hp) (Q : List (V × V) → Hp → Prop), Inv X pins σ H s → tPairs trs σ H Q →
    wpAny (model X.prog X.w) X.A (evalPairs (pairTrees keys values X.env pos)) (fun vs s' => ∃ ps H', Inv X pins σ H' s' ∧ VV ps vs ∧ Q ps H') X.xe s
theorem pps_nil {X : Cx} {pos : Pos} : PPs X pos [] [] [] := fun pins s σ H Q I h => pairTrees_nil_walk ⟨[], H, I, .nil, h⟩
theorem pps_cons {X : Cx} {pos : Pos} {k v : Expr} {ks : List (Option Expr)} {vs : List Expr} {tk tv : TE} {trs : List (TE × TE)} (hk : PE X k tk) (hv : PE X v tv) (hr : PPs X pos ks vs trs) :
    PPs X pos (some k :: ks) (v :: vs) ((tk, tv) :: trs) := fun pins s σ H Q I h =>
  pairTrees_cons_walk (thn (hk pins s σ H _ I h) fun u s1 ⟨x, H1, I1, rx, q1⟩ => thn (hv pins s1 σ H1 _ I1 q1) fun w2 s2 ⟨y, H2, I2, ry, q2⟩ =>
    thn (hr pins s2 σ H2 _ I2 q2) fun ws s3 ⟨ps, H3, I3, rel, q3⟩ => ⟨(x, y) :: ps, H3, I3, .cons ⟨rx, ry⟩ rel, q3⟩)

def mergeK (kvs more : List (Key × V)) : List (Key × V) := more.foldl (fun acc kv => putK acc kv.1 kv.2) kvs
theorem KV.merge : ∀ {more : List (Key × V)} {rs : List (Key × Value)} {kvs : List (Key × V)} {vs : List (Key × Value)}, KV more rs → KV kvs vs → KV (mergeK kvs more) (merged vs rs) := by
  intro more rs kvs vs r
  unfold KV at r
  induction r generalizing kvs vs with
  | nil => intro q; exact q
  | @cons p q ps qs h t ih =>
    intro r0
    have e : KV (putK kvs p.1 p.2) (stored vs q.1 q.2) := by
      have := r0.put p.1 h.2
      rw [← h.1]; exact this
    exact ih e
theorem length_mergeK : ∀ (more kvs : List (Key × V)), (mergeK kvs more).length ≤ kvs.length + more.length
  | [], kvs => by show kvs.length ≤ kvs.length + 0; omega
  | p :: r, kvs => by
    have h1 := length_mergeK r (putK kvs p.1 p.2)
    have h2 := length_putK kvs p.1 p.2
    show (mergeK (putK kvs p.1 p.2) r).length ≤ _
    rw [List.length_cons]; omega
theorem carries_of {P : Program} {w : World} : ∀ {kvs : List (Key × V)} {ws : List (Value × Value)}, VV (kvs.map fun kv => (kV kv.1, kv.2)) ws → ∃ rs, Carries (mixKind P w) ws rs ∧ KV kvs rs
  | [], _, r => by rw [List.map_nil] at r; cases r; exact ⟨[], True.intro, .nil⟩
  | p :: kvs, _, r => by
    rw [List.map_cons] at r
    cases r with
    | @cons a b as bs h t =>
      obtain ⟨rs, c, q⟩ := carries_of (P := P) (w := w) t
      obtain ⟨b1, b2⟩ := b
      exact ⟨(p.1, b2) :: rs, ⟨kV_is h.1, rfl, c⟩, .cons ⟨rfl, h.2⟩ q⟩
/-- {k: v, ..} with keys ints and texts; the new dict stands empty while the pairs are made -/
def tDisp (trs : List (TE × TE)) : TE := fun σ H Q => ∀ p, H p = none → tPairs trs σ (upd H p (.dK [])) fun ps H2 => H2 p = some (.dK []) ∧ ∃ kvs : List (Key × V), ps = kvs.map (fun kv => (kV kv.1, kv.2)) ∧ kvs.length ≤ 15 ∧ Q (.ref p) (upd H2 p (.dK (mergeK [] kvs)))
theorem pe_disp {X : Cx} {pos : Pos} {keys : List (Option Expr)} {values : List Expr} {trs : List (TE × TE)} (h : PPs X pos keys values trs) (hall : keys.all (·.isSome) = true) (hl : keys.length = values.length) (h0 : keys ≠ [])
    (h15 : keys.length ≤ 15) : PE X (.Dict keys values pos) (tDisp trs) := by
  intro pins s σ H Q I q
  have hn := I.hok.fresh (Nat.le_refl s.heap.objs.size)
  have I1 := I.laid (a := s.heap.objs.size) (o := .dK []) (h' := s.heap.push { cls := .type "dict", data := .dict #[] }) (t' := s.toks) (fun _ _ q => Heap.get?_push_of_some _ q) (Nat.le_refl _) (dk_empty s.heap I.big)
  refine wpAny_Dict_walk (knd := mixKind X.prog X.w) hall hl h0 h15 (thn (h pins _ σ _ _ I1 (q _ hn)) fun ws s2 ⟨ps, H2, I2, rel, e, kvs, ep, lk, q2⟩ => ?_)
  subst ep
  obtain ⟨rs, c, rk⟩ := carries_of (P := X.prog) (w := X.w) rel
  obtain ⟨z, hd, vs0, r0, dd⟩ := dk_of I2.hok e
  cases r0
  refine ⟨rs, c, dd, fun h' dd' hs => ⟨.ref s.heap.objs.size, _, ?_, rfl, q2⟩⟩
  have hz : (mergeK [] kvs).length ≤ sizeLine := by
    have h1 := length_mergeK kvs []
    rw [List.length_nil] at h1
    rw [sizeLine_eq]; omega
  have he : ∃ q, h'.get? s.heap.objs.size = some q := let ⟨q, _, _, hq, _⟩ := dd'; ⟨q, hq⟩
  exact d_write I2 (by rw [e]; exact True.intro) hs he (dk_new hz hd (rk.merge .nil) dd')


/-! ### methods -/
/-- a method call o.m(e) of a built-in, with one argument: what must be seen of the text -/
structure M1 (X : Cx) (o : Expr) (m : Str) (apos : Pos) (e : Expr) (cpos : Pos) : Prop where
  base : attributeBase o m X.env (eval o X.env) = eval o X.env
  few : ((backTo cpos (starEach [e] X.env)).all (fun x => !x.1) && (backToKw cpos (keywordEach [] X.env)).all (fun x => x.1.isSome)
    && decide (([e] : List Expr).length + ([] : List Keyword).length + (if ([] : List Keyword).isEmpty then 0 else 1) < 30)) = true
  line : (apos.endLine == cpos.line) = true
  trees : backTo cpos (starEach [e] X.env) = [(false, eval e X.env)]
structure M2 (X : Cx) (o : Expr) (m : Str) (apos : Pos) (e f : Expr) (cpos : Pos) : Prop where
  base : attributeBase o m X.env (eval o X.env) = eval o X.env
  few : ((backTo cpos (starEach [e, f] X.env)).all (fun x => !x.1) && (backToKw cpos (keywordEach [] X.env)).all (fun x => x.1.isSome)
    && decide (([e, f] : List Expr).length + ([] : List Keyword).length + (if ([] : List Keyword).isEmpty then 0 else 1) < 30)) = true
  line : (apos.endLine == cpos.line) = true
  trees : backTo cpos (starEach [e, f] X.env) = [(false, eval e X.env), (false, eval f X.env)]

/-- a is a dict, whatever its keys -/
def IsD (H : Hp) (a : Addr) : Prop := (∃ kvs, Rd H a (.dK kvs)) ∨ ∃ kvs, Rd H a (.dT kvs)
section
variable {X : Cx} {pins : List (Addr × Obj)} {σ : St} {H : Hp} {s : Shared} {a : Addr} {y d : V} {u r : Value} {o : Option V} {A : Around} {E : Value → Shared → Prop}
/-- d.get(y, x) -/
theorem d_get2 {Q : Value → Shared → Prop} (hu : A.units + 1 < cLine) (I : Inv X pins σ H s) (g : DGet H a y o) (ry : RelV y u) (rd : RelV d r) (h : ∀ w' s', Inv X pins σ H s' → RelV (o.getD d) w' → Q w' s') :
    wpAny (model X.prog X.w) A (call (.builtin "dict.get") [.ref a, u, r]) Q E s := by
  rcases g with ⟨kvs, k, e, ey, l⟩ | ⟨kvs, k, b, e, ey, eb, l⟩
  · subst ey
    obtain ⟨z, hd, vs, rel, dd⟩ := dk_rd I.hok e
    refine call_meetsIn PySem.F.slot_dict_get dd.typeIs PySem.F.entry_dict_get (PySem.F.args_dict_get_3 _ _ _) (meets_dict_get_default (mixKind X.prog X.w) a (kV_is ry) hd r) ⟨_, dd.mapOf, h _ _ (I.tok _) ?_⟩
    rw [l]
    exact (rel.val k).getD rd
  · subst ey
    cases (show u = Value.ref b from ry)
    obtain ⟨z, hd, xs, rel, dd⟩ := dt_rd I.hok e
    refine call_meetsIn PySem.F.slot_dict_get dd.typeIs PySem.F.entry_dict_get (PySem.F.args_dict_get_3 _ _ _) (meetsH_dict_get_default (tupleKind (mixKind X.prog X.w)) a b hd r) ⟨tupleKind_room_in1 hu, k, xs, key_of I.hok eb, dd, h _ _ (I.tok _) ?_⟩
    rw [l]
    exact (rel.val k).getD rd
end

def tDGet1 (td ty : TE) : TE := fun σ H Q => td σ H fun x H1 => ∃ a, x = .ref a ∧ IsD H1 a ∧ ty σ H1 fun y H2 => ∃ o, DGet H2 a y o ∧ Q (o.getD .non) H2
def tDGet2 (td ty tx : TE) : TE := fun σ H Q => td σ H fun x H1 => ∃ a, x = .ref a ∧ IsD H1 a ∧ ty σ H1 fun y H2 => tx σ H2 fun z H3 => ∃ o, DGet H3 a y o ∧ Q (o.getD z) H3
/-- d.pop(k): there; d.pop(k, x): there or not -/
def tDPop1 (td ty : TE) : TE := fun σ H Q => td σ H fun x H1 => ∃ a, x = .ref a ∧ IsD H1 a ∧ ty σ H1 fun y H2 => ∃ kvs k v, H2 a = some (.dK kvs) ∧ y = kV k ∧ valV kvs k = some v ∧ Q v (upd H2 a (.dK (dropK kvs k)))
def tDPop2 (td ty tx : TE) : TE := fun σ H Q => td σ H fun x H1 => ∃ a, x = .ref a ∧ IsD H1 a ∧ ty σ H1 fun y H2 => tx σ H2 fun z H3 => ∃ kvs k, H3 a = some (.dK kvs) ∧ y = kV k ∧
  (∀ v, valV kvs k = some v → Q v (upd H3 a (.dK (dropK kvs k)))) ∧ (valV kvs k = none → Q z H3)
section
variable {X : Cx} {o e f : Expr} {apos cpos : Pos} {td ty tx : TE}
end

/-! ### dict(d): a copy -/
section
variable {X : Cx} {pins : List (Addr × Obj)} {σ : St} {H : Hp} {s : Shared} {a : Addr} {kvs : List (Key × V)} {A : Around} {E : Value → Shared → Prop}
end


section
variable {X : Cx} {pins : List (Addr × Obj)} {σ : St} {H : Hp} {s : Shared} {a : Addr} {y : V} {u : Value} {A : Around} {E : Value → Shared → Prop}
end
end L2
namespace L2
open PySem PySem.Spec PyProof.Rows
/-! ### a dict's pairs: keys that differ -/
section
variable {κ : Type} [DecidableEq κ]
theorem valV_not {kvs : List (κ × V)} {k : κ} (h : valV kvs k = none) : ¬ k ∈ kvs.map (·.1) := by
  intro m
  obtain ⟨p, hp, e⟩ := List.mem_map.mp m
  have q : (kvs.any fun kv => decide (kv.1 = k)) = true := List.any_eq_true.mpr ⟨p, hp, decide_eq_true e⟩
  rw [valV_any, h] at q
  exact absurd q (by simp)
theorem valV_in {kvs : List (κ × V)} {k : κ} {v : V} (h : valV kvs k = some v) : k ∈ kvs.map (·.1) := by
  have q : (kvs.any fun kv => decide (kv.1 = k)) = true := by
    rw [valV_any, h]
    all_goals rfl
  obtain ⟨p, hp, e⟩ := List.any_eq_true.mp q
  exact List.mem_map.mpr ⟨p, hp, of_decide_eq_true e⟩
end
end L2
end
section
set_option Elab.async false
set_option linter.all false
set_option maxRecDepth 100000
namespace HW
open PySem PySem.Spec PyProof.Rows L2
section
variable {X : Cx}
/-- d.setdefault(k, x) -/
def rSetD : V → List V → Hp → VK → Prop := fun x vs H Q => ∃ (d : Addr) (kvs : List (Key × V)) (k : Key) (z : V), x = .ref d ∧ vs = [kV k, z] ∧ H d = some (.dK kvs) ∧ kvs.length < sizeLine ∧
  (∀ v, valV kvs k = some v → Q v H) ∧ (valV kvs k = none → Q z (upd H d (.dK (putK kvs k z))))
theorem mt_setdefault : MtR X "dict.setdefault" rSetD := by
  intro pins s σ H x vs v us Q I rx rv h
  obtain ⟨d, kvs, k, z, rfl, rfl, hH, hz, q1, q2⟩ := h
  cases rx
  cases rv with
  | cons ry rr =>
    cases rr with
    | cons rz rr =>
      cases rr
      rename_i u r
      obtain ⟨zz, hd, ws, rel, dd⟩ := dk_of I.hok hH
      have hl : ws.length ≤ sizeLine := by rw [← rel.length]; exact zz
      refine call_meetsIn PySem.F.slot_dict_setdefault dd.typeIs PySem.F.entry_dict_setdefault (PySem.F.args_dict_setdefault_3 _ _ _) (kt_meets_setdefault (mixKind X.prog X.w) d (kV_is ry) hd r) ⟨ws, dd, hl, fun w' hw => ?_, fun hn h' dd' hs => ?_⟩
      · have rl := rel.val k
        rw [hw] at rl
        cases e : valV kvs k with
        | none => rw [e] at rl; exact (show False from rl).elim
        | some v0 =>
          rw [e] at rl
          exact ⟨v0, H, I.tok _, rl, q1 v0 e⟩
      · have rl := rel.val k
        rw [hn] at rl
        cases e : valV kvs k with
        | some v0 => rw [e] at rl; exact (show False from rl).elim
        | none =>
          have he : ∃ q, h'.get? d = some q := let ⟨q, _, _, hq, _⟩ := dd'; ⟨q, hq⟩
          have hl' : (putK kvs k z).length ≤ sizeLine := by have := length_putK kvs k z; omega
          exact ⟨z, _, d_write I (by rw [hH]; exact True.intro) hs he (dk_new hl' hd (rel.put k rz) dd'), rz, q2 e⟩
/-- d.get(k, x) -/
def rDGet2 : V → List V → Hp → VK → Prop := fun x vs H Q => ∃ (d : Addr) (kvs : List (Key × V)) (k : Key) (z : V), x = .ref d ∧ vs = [kV k, z] ∧ H d = some (.dK kvs) ∧ Q ((valV kvs k).getD z) H
theorem mt_dget2 (hu : X.A.units + 1 < cLine) : MtR X "dict.get" rDGet2 := by
  intro pins s σ H x vs v us Q I rx rv h
  obtain ⟨d, kvs, k, z, rfl, rfl, hH, q⟩ := h
  cases rx
  cases rv with
  | cons ry rr =>
    cases rr with
    | cons rz rr =>
      cases rr
      exact d_get2 hu I (DGet.k hH) ry rz fun w' s' I' r' => ⟨_, H, I', r', q⟩
/-- the keys of a dict as they come -/
theorem keys_vals {P : Program} {w : World} : ∀ {kvs : List (Key × V)} {ws : List (Key × Value)} {ks : List Int} {vs : List Value}, KV kvs ws → kvs.map (·.1) = ks.map Sum.inl → vs.length = ws.length →
    (∀ (j : Nat) (v : Value), vs[j]? = some v → ∃ k x, ws[j]? = some (k, x) ∧ (mixKind P w).is k v = true) → Vals (ks.map V.int) vs := by
  intro kvs ws ks vs r
  unfold KV at r
  induction r generalizing ks vs with
  | nil =>
    intro e hl _
    have e1 : ks = [] := by cases ks with
      | nil => rfl
      | cons _ _ => simp at e
    subst e1
    have e2 : vs = [] := List.eq_nil_of_length_eq_zero hl
    subst e2
    exact .nil
  | @cons p q ps qs h t ih =>
    intro e hl hv
    cases ks with
    | nil => simp at e
    | cons k ks =>
      rw [List.map_cons, List.map_cons] at e
      injection e with e1 e2
      cases vs with
      | nil => simp at hl
      | cons v vs =>
        obtain ⟨k', x, e3, hk⟩ := hv 0 v rfl
        have e4 : q = (k', x) := by simpa using e3
        have e5 : k' = Sum.inl k := by
          have z : q.1 = k' := by rw [e4]
          rw [← z, ← h.1]
          exact e1
        rw [e5] at hk
        have hk' : keyIs (Sum.inl k) v = true := hk
        refine .cons ?_ (ih e2 (by simpa using hl) fun j u hu => ?_)
        · rcases keyIs_shape hk' with ⟨i, tk, ei, ev⟩ | ⟨y, tk, ei, ev⟩
          · injection ei with ei
            subst ei
            exact ⟨tk, ev⟩
          · cases ei
        · obtain ⟨k2, x2, e6, hk2⟩ := hv (j + 1) u (by simpa using hu)
          exact ⟨k2, x2, by simpa using e6, hk2⟩
section
variable {P : Program} {w : World} {A : Around} {E : Value → Shared → Prop} {s : Shared} {a : Addr} {T : String} {r d : Addr} {n : Nat} {Pv : Nat → Value → Prop} {OK : Heap → Prop}
theorem collect_src {R : List Value → Shared → Prop} (K : PySem.W.KdlSrc P w T r d n Pv OK) (hh : A.handled = none) (hok : OK s.heap) (hn : n ≤ sizeLine)
    (h : ∀ h' tk (vs : List Value), s.heap.objs.size ≤ h'.objs.size → (∀ b u, s.heap.get? b = some u → h'.get? b = some u) → vs.length = n → (∀ (j : Nat) (v : Value), vs[j]? = some v → Pv j v) → R vs { s with heap := h', toks := tk }) :
    wpAny (model P w) A (collect (.ref r)) R E s := by
  have hlt := K.there _ hok
  unfold collect
  refine wpAny_bind (wpAny_runValue (codeAny_builtin entry_proto_collect' ?_))
  rw [Around.under_plainId PySem.F.plain_proto_collect _]
  show wpAny _ A.in1 (newList [] >>= fun l => again (.builtin "list.__iadd__" ⟨[l, .ref r], []⟩)) _ _ s
  refine wpAny_bind (wpAny_newObj_type ?_)
  refine wpAny_pure ⟨plainId_quiet PySem.F.plain_list_iadd _, codeAny_builtin entry_list_iadd' ?_⟩
  rw [Around.under_plainId PySem.F.plain_list_iadd _]
  have hL : (s.heap.push { cls := .type "list", data := .seq ([] : List Value).toArray }).get? s.heap.objs.size = some { cls := .type "list", data := .seq #[] } := Heap.get?_push_size _ rfl
  show wpAny _ A.in1 (Builtin.List.listExtendWith (.ref s.heap.objs.size) (.ref r) (.ref s.heap.objs.size)) _ _ _
  have key := PySem.W.kdl_extend (A := A) (s := { s with heap := s.heap.push { cls := .type "list", data := .seq ([] : List Value).toArray } }) K
    (R := fun (q : Result) (s' : Shared) => ∃ (h' : Heap) (tk : Nat) (acc : Array Value) (c' : Nat), q = .ok (.ret (.ref s.heap.objs.size)) ∧ s' = { s with heap := h', toks := tk } ∧
      (∀ b u, s.heap.get? b = some u → h'.get? b = some u) ∧ h'.get? s.heap.objs.size = some { cls := .type "list", dict := none, data := .seq acc c', slots := #[] } ∧ ItemsOf Pv acc n)
    hh (K.keep _ _ hok fun b _ o e => Heap.get?_push_of_some _ e) s.heap.objs.size (Nat.ne_of_gt hlt.1) (Nat.ne_of_gt hlt.2) (.ref s.heap.objs.size) 0 hL
    (fun h' tk acc c' k2 hL' i2 => ⟨h', tk, acc, c', rfl, rfl, fun b u e => k2 b u (Nat.ne_of_lt (Heap.lt_size e)) (Heap.get?_push_of_some _ e), hL', i2⟩) hn
  have fin : ∀ (h' : Heap) (tk : Nat) (acc : Array Value) (c' : Nat), (∀ b u, s.heap.get? b = some u → h'.get? b = some u) → h'.get? s.heap.objs.size = some { cls := .type "list", dict := none, data := .seq acc c', slots := #[] } → ItemsOf Pv acc n →
      R acc.toList { s with heap := h', toks := tk } := fun h' tk acc c' k2 hL' i2 =>
    h h' tk acc.toList (Nat.le_of_lt (Heap.lt_size hL')) k2 (by rw [Array.length_toList]; exact i2.1) fun j v hj => i2.2 j v (by rw [← Array.getElem?_toList]; exact hj)
  refine wpAny_mono key (fun fl s' x => ?_) fun e s' x => ?_
  · cases fl with
    | done f =>
      obtain ⟨h', tk, acc, c', e, rfl, k2, hL', i2⟩ := x
      cases e
      show wpAny _ A (load s.heap.objs.size >>= _) _ _ _
      exact wpAny_bind (wpAny_load hL' (wpAny_pure (fin h' tk acc c' k2 hL' i2)))
    | again c1 =>
      refine ⟨x.1, codeAny_mono x.2 fun q s2 y => ?_⟩
      obtain ⟨h', tk, acc, c', rfl, rfl, k2, hL', i2⟩ := y
      show wpAny _ A (load s.heap.objs.size >>= _) _ _ _
      exact wpAny_bind (wpAny_load hL' (wpAny_pure (fin h' tk acc c' k2 hL' i2)))
  · obtain ⟨_, _, _, _, e', _⟩ := x
    cases e'
/-- sorted over what gives ints -/
theorem sorted_src {Q : Value → Shared → Prop} (K : PySem.W.KdlSrc P w T r d n Pv OK) (hh : A.handled = none) (hok : OK s.heap) (h64 : n < 64) {ms : List Int} (hi : ∀ vs : List Value, vs.length = n → (∀ (j : Nat) (v : Value), vs[j]? = some v → Pv j v) → IntsAre vs ms)
    (h : ∀ (D : Addr) h' tk (out : Array Value) (ns' : List Int) c', s.heap.objs.size ≤ D → (∀ b u, s.heap.get? b = some u → h'.get? b = some u) → h'.get? D = some { cls := .type "list", data := .seq out c' } → IntsAre out.toList ns' → ns'.Perm ms → ns'.Pairwise (· ≤ ·) →
      Q (.ref D) { s with heap := h', toks := tk }) :
    wpAny (model P w) A (call (.builtin "sorted") [.ref r]) Q E s := by
  refine Calls.call_function_entry kind_sorted plain_sorted entry_sorted (args_sorted1 _) ?_
  unfold Builtin.«sorted»
  refine wpAny_bind (m := checkCount "sorted" 1 1 _) (wpAny_pure ?_)
  refine wpAny_bind (collect_src (A := A.in1) K hh hok (by have := sizeLine_eq; omega) fun h1 tk vs hle k1 hl hv => ?_)
  have i1 := hi vs hl hv
  refine wpAny_bind (wpAny_newList ?_ (by have := sizeLine_eq; omega))
  have hoL : (h1.push (seqObj "list" vs.toArray 0)).get? h1.objs.size = some (seqObj "list" vs.toArray 0) := Heap.get?_push_size _ rfl
  refine wpAny_bind (wpAny_holding (wpAny_call_entry slot_list_sort ⟨_, hoL, rfl⟩ entry_list_sort (list_sort_tree hoL i1 (by omega) fun out ns' a1 a2 a3 => ⟨_, rfl, ?_⟩) (args_list_sort _)))
  obtain ⟨c', hD⟩ : ∃ c', (sortedHeap (h1.push (seqObj "list" vs.toArray 0)) h1.objs.size vs out).get? h1.objs.size = some (seqObj "list" out c') := sortedHeap_at hoL
  refine wpAny_pure ⟨_, rfl, h _ _ _ out ns' c' hle (fun b u e => ?_) hD a1 a2 a3⟩
  have q := k1 b u e
  have qs := Heap.lt_size q
  rw [sortedHeap_old (Nat.ne_of_lt qs) (by rw [size_push']; exact Nat.lt_succ_of_lt qs)]
  exact Heap.get?_push_of_some _ q
end
/-- sorted(d) -/
theorem call_sortedDict (hc : X.calm = true) : CallR X (.builtin "sorted") (fun xs H Q => ∃ (a : Addr) (kvs : List (Key × V)) (ks : List Int), xs = [.ref a] ∧ H a = some (.dK kvs) ∧ kvs.map (·.1) = ks.map Sum.inl ∧ ks.length < 64 ∧
    ∀ (p : Addr) (ns' : List Int), H p = none → ns'.Perm ks → ns'.Pairwise (· ≤ ·) → Q (.ref p) (upd H p (.lst (ns'.map V.int)))) := by
  intro pins s σ H xs us Q I r h
  obtain ⟨a, kvs, ks, rfl, ha, hk, hn, q⟩ := h
  obtain ⟨u, rfl, ru⟩ := vals1 r
  cases ru
  obtain ⟨zz, hd, ws, rel, dd⟩ := dk_of I.hok ha
  obtain ⟨ep, da⟩ := dd.dictAt
  have hl : ws.length = ks.length := by
    rw [← rel.length]
    have e := congrArg List.length hk
    rwa [List.length_map, List.length_map] at e
  refine sorted_src (PySem.W.kdl_dict (knd := mixKind X.prog X.w) hd) (I.ok.hd hc) da (by omega) (ms := ks) (fun vs hvl hv => ?_) fun D h' tk out ns' c' hD keep gD ia pm pw => ?_
  · have hv' : Vals (ks.map V.int) vs := keys_vals (P := X.prog) (w := X.w) rel hk hvl hv
    exact intsAre_of hv'
  have hl' : (ns'.map V.int).length ≤ sizeLine := by
    rw [List.length_map, pm.length_eq]
    have := sizeLine_eq
    omega
  have new : ObjOk X.prog X.w (upd H D (.lst (ns'.map V.int))) h' D (.lst (ns'.map V.int)) := ⟨hl', out.toList, c', vals_ints ia, gD⟩
  exact ⟨.ref D, _, I.laid keep hD new, rfl, q D ns' (I.hok.fresh hD) pm pw⟩
end
end HW
end
section
set_option Elab.async false
set_option linter.all false
set_option maxRecDepth 100000
namespace HW
open PySem PySem.Spec PyProof.Rows L2
/-! ### the table of neighbours -/
def Near (H : Hp) (d : Addr) (ps : List (Int × Int)) : Prop := ∃ kvs : List (Key × V), H d = some (.dK kvs) ∧ ∀ x : Int, (nbs ps x = [] ∧ valV kvs (Sum.inl x) = none) ∨ ∃ a, valV kvs (Sum.inl x) = some (.ref a) ∧ H a = some (.lst ((nbs ps x).map V.int))
theorem _root_.L2.Same.near {H H' : Hp} {d : Addr} {ps : List (Int × Int)} (e : Same H H') (h : Near H d ps) : Near H' d ps := by
  obtain ⟨kvs, h1, h2⟩ := h
  refine ⟨kvs, e _ _ h1, fun x => ?_⟩
  rcases h2 x with q | ⟨a, q1, q2⟩
  · exact .inl q
  · exact .inr ⟨a, q1, e _ _ q2⟩
structure NbI (H H2 : Hp) (d : Addr) (kvs : List (Key × V)) (f : Int → List Int) (n : Nat) : Prop where
  same : Same H H2
  new : H d = none
  dat : H2 d = some (.dK kvs)
  len : kvs.length ≤ n
  each : ∀ x : Int, (f x = [] ∧ valV kvs (Sum.inl x) = none) ∨ ∃ a, valV kvs (Sum.inl x) = some (.ref a) ∧ H a = none ∧ a ≠ d ∧ H2 a = some (.lst ((f x).map V.int))
  inj : ∀ (x y : Int) (a : Addr), valV kvs (Sum.inl x) = some (.ref a) → valV kvs (Sum.inl y) = some (.ref a) → x = y
theorem NbI.near {H H2 : Hp} {d : Addr} {kvs : List (Key × V)} {ps : List (Int × Int)} {n : Nat} (I : NbI H H2 d kvs (nbs ps) n) : Near H2 d ps := by
  refine ⟨kvs, I.dat, fun x => ?_⟩
  rcases I.each x with q | ⟨a, q1, _, _, q2⟩
  · exact .inl q
  · exact .inr ⟨a, q1, q2⟩
theorem half_old {H H2 : Hp} {d p a : Addr} {kvs : List (Key × V)} {f : Int → List Int} {n : Nat} {x : Int} (I : NbI H H2 d kvs f n) (hp : H2 p = none) (hv : valV kvs (Sum.inl x) = some (.ref a)) (z : Int) :
    NbI H (upd (upd H2 p (.lst [])) a (.lst ((f x).map V.int ++ [.int z]))) d kvs (addN f x z) (n + 1) := by
  obtain ⟨ha, had, hal⟩ : H a = none ∧ a ≠ d ∧ H2 a = some (.lst ((f x).map V.int)) := by
    rcases I.each x with ⟨_, q⟩ | ⟨b, q1, q2, q3, q4⟩
    · rw [hv] at q
      cases q
    · rw [hv] at q1
      have e : a = b := by injection q1 with q1; injection q1
      subst e
      exact ⟨q2, q3, q4⟩
  refine ⟨same_put (I.same.trans (same_new hp _)) ha _, I.new, ?_, by have := I.len; omega, fun y => ?_, I.inj⟩
  · rw [upd_ne (Ne.symm had), upd_ne (ne_of_none I.dat hp)]
    exact I.dat
  · by_cases c : y = x
    · subst c
      refine .inr ⟨a, hv, ha, had, ?_⟩
      rw [upd_same]
      unfold addN
      rw [if_pos rfl, List.map_append]
      rfl
    · have e : addN f x z y = f y := if_neg c
      rw [e]
      rcases I.each y with q | ⟨b, q1, q2, q3, q4⟩
      · exact .inl q
      · have hba : b ≠ a := fun e => c (I.inj y x a (by rw [← e]; exact q1) hv)
        refine .inr ⟨b, q1, q2, q3, ?_⟩
        rw [upd_ne hba, upd_ne (ne_of_none q4 hp)]
        exact q4
theorem half_new {H H2 : Hp} {d p : Addr} {kvs : List (Key × V)} {f : Int → List Int} {n : Nat} {x : Int} (I : NbI H H2 d kvs f n) (hp : H2 p = none) (hv : valV kvs (Sum.inl x) = none) (z : Int) :
    NbI H (upd (upd (upd H2 p (.lst [])) d (.dK (putK kvs (Sum.inl x) (.ref p)))) p (.lst ([] ++ [.int z]))) d (putK kvs (Sum.inl x) (.ref p)) (addN f x z) (n + 1) := by
  have hfx : f x = [] := by
    rcases I.each x with ⟨q, _⟩ | ⟨b, q1, _⟩
    · exact q
    · rw [hv] at q1
      cases q1
  have hpd : d ≠ p := ne_of_none I.dat hp
  have hHp : H p = none := I.same.free hp
  refine ⟨same_put (same_put (I.same.trans (same_new hp _)) I.new _) hHp _, I.new, ?_, ?_, fun y => ?_, fun y y' a h1 h2 => ?_⟩
  · rw [upd_ne hpd, upd_same]
  · have := length_putK kvs (Sum.inl x) (V.ref p)
    have := I.len
    omega
  · by_cases c : y = x
    · subst c
      refine .inr ⟨p, by rw [valV_put, if_pos rfl], hHp, Ne.symm hpd, ?_⟩
      rw [upd_same]
      unfold addN
      rw [if_pos rfl, hfx]
      rfl
    · have e : addN f x z y = f y := if_neg c
      have ck : ¬ (Sum.inl y : Key) = Sum.inl x := fun e => c (Sum.inl.inj e)
      rw [e, valV_put, if_neg ck]
      rcases I.each y with q | ⟨b, q1, q2, q3, q4⟩
      · exact .inl q
      · refine .inr ⟨b, q1, q2, q3, ?_⟩
        rw [upd_ne (ne_of_none q4 hp), upd_ne q3, upd_ne (ne_of_none q4 hp)]
        exact q4
  · have key : ∀ (u : Int) (b : Addr), valV kvs (Sum.inl u) = some (.ref b) → b ≠ p := fun u b hu => by
      rcases I.each u with ⟨_, q⟩ | ⟨b', q1, q2, q3, q4⟩
      · rw [hu] at q
        cases q
      · rw [hu] at q1
        have e : b = b' := by injection q1 with q1; injection q1
        subst e
        exact ne_of_none q4 hp
    rw [valV_put] at h1 h2
    by_cases c1 : (Sum.inl y : Key) = Sum.inl x
    · by_cases c2 : (Sum.inl y' : Key) = Sum.inl x
      · exact (Sum.inl.inj c1).trans (Sum.inl.inj c2).symm
      · rw [if_pos c1] at h1
        rw [if_neg c2] at h2
        have e : p = a := by injection h1 with h1; injection h1
        exact absurd e.symm (key y' a h2)
    · rw [if_neg c1] at h1
      by_cases c2 : (Sum.inl y' : Key) = Sum.inl x
      · rw [if_pos c2] at h2
        have e : p = a := by injection h2 with h2; injection h2
        exact absurd e.symm (key y a h1)
      · rw [if_neg c2] at h2
        exact I.inj y y' a h1 h2
/-- d.setdefault(x, []).append(z) -/
theorem half_run {K : PySem.W.Frag} {σ : St} {H H2 : Hp} {d : Addr} {kvs : List (Key × V)} {f : Int → List Int} {n : Nat} {x z : Int} {tv tk tz : TE} {Q : VK} (I : NbI H H2 d kvs f n) (hn : n < 3000) (hf : (f x).length < 3000)
    (hv : ∀ (H' : Hp) (Q' : VK), Q' (.ref d) H' → tv σ H' Q') (hk : ∀ (H' : Hp) (Q' : VK), Same H H' → Q' (.int x) H' → tk σ H' Q') (hz : ∀ (H' : Hp) (Q' : VK), Same H H' → Q' (.int z) H' → tz σ H' Q')
    (q : ∀ (H3 : Hp) (kvs' : List (Key × V)), NbI H H3 d kvs' (addN f x z) (n + 1) → Q .non H3) :
    tBM K "list" rAppend (tBM K "dict" rSetD tv (tCons tk (tCons (tLst tNil) tNil))) (tCons tz tNil) σ H2 Q := by
  refine hv _ _ ⟨.inr (.inr (.inl ⟨rfl, .inl ⟨_, I.dat⟩⟩)), hk _ _ I.same ⟨(by show 0 ≤ sizeLine; decide), fun p hp => ?_⟩⟩
  have hpd : d ≠ p := ne_of_none I.dat hp
  have s1 : Same H (upd H2 p (.lst [])) := I.same.trans (same_new hp _)
  have hl : kvs.length < sizeLine := by
    have := I.len
    have e := sizeLine_eq
    omega
  refine ⟨d, kvs, Sum.inl x, .ref p, rfl, rfl, by rw [upd_ne hpd]; exact I.dat, hl, fun v hv' => ?_, fun hn' => ?_⟩
  · obtain ⟨a, rfl, hal⟩ : ∃ a, v = .ref a ∧ H2 a = some (.lst ((f x).map V.int)) := by
      rcases I.each x with ⟨_, q⟩ | ⟨b, q1, q2, q3, q4⟩
      · rw [hv'] at q
        cases q
      · rw [hv'] at q1
        exact ⟨b, Option.some.inj q1, q4⟩
    have h1 : (upd H2 p (.lst [])) a = some (.lst ((f x).map V.int)) := by rw [upd_ne (ne_of_none hal hp)]; exact hal
    refine ⟨.inl ⟨rfl, _, SqL.of h1⟩, hz _ _ s1 ?_⟩
    refine ⟨a, _, _, rfl, rfl, h1, ?_, q _ _ (half_old I hp hv' z)⟩
    rw [List.length_map]
    have e := sizeLine_eq
    omega
  · have h1 : (upd (upd H2 p (.lst [])) d (.dK (putK kvs (Sum.inl x) (.ref p)))) p = some (.lst []) := by rw [upd_ne (Ne.symm hpd), upd_same]
    refine ⟨.inl ⟨rfl, _, SqL.of h1⟩, hz _ _ (same_put s1 I.new _) ?_⟩
    refine ⟨p, _, _, rfl, rfl, h1, (by show 0 < sizeLine; decide), q _ _ (half_new I hp hn' z)⟩
/-! ### the places that are come to from one -/
structure BfsI (ps : List (Int × Int)) (start : Int) (B : List Int) (H H2 : Hp) (rd rw : Addr) (kvs : List (Key × V)) (row : List Int) : Prop where
  same : Same H H2
  newD : H rd = none
  newR : H rw = none
  dat : H2 rd = some (.dK kvs)
  rat : H2 rw = some (.lst (row.map V.int))
  keys : kvs.map (·.1) = row.map Sum.inl
  nd : row.Nodup
  hd : row[0]? = some start
  grown : Grown ps row
  sub : ∀ z ∈ row, z ∈ B
  road : ∀ x ∈ row, ∃ (a : Addr) (l : List Int), valV kvs (Sum.inl x) = some (.ref a) ∧ H2 a = some (.lst (l.map V.int)) ∧ a ≠ rw ∧ Road ps start l x ∧ ∀ z ∈ l, z ∈ row
theorem BfsI.ne {ps : List (Int × Int)} {start : Int} {B : List Int} {H H2 : Hp} {rd rw : Addr} {kvs : List (Key × V)} {row : List Int} (I : BfsI ps start B H H2 rd rw kvs row) : rd ≠ rw := ne_of I.dat I.rat (by intro z; cases z)
theorem BfsI.len {ps : List (Int × Int)} {start : Int} {B : List Int} {H H2 : Hp} {rd rw : Addr} {kvs : List (Key × V)} {row : List Int} (I : BfsI ps start B H H2 rd rw kvs row) : row.length ≤ B.length := nodup_len I.nd I.sub
theorem BfsI.klen {ps : List (Int × Int)} {start : Int} {B : List Int} {H H2 : Hp} {rd rw : Addr} {kvs : List (Key × V)} {row : List Int} (I : BfsI ps start B H H2 rd rw kvs row) : kvs.length = row.length := by
  have e := congrArg List.length I.keys
  rwa [List.length_map, List.length_map] at e
theorem BfsI.in_ {ps : List (Int × Int)} {start : Int} {B : List Int} {H H2 : Hp} {rd rw : Addr} {kvs : List (Key × V)} {row : List Int} (I : BfsI ps start B H H2 rd rw kvs row) (y : Int) : (valV kvs (Sum.inl y)).isSome = decide (y ∈ row) := by
  have m : ∀ z : Int, (Sum.inl z : Key) ∈ kvs.map (·.1) ↔ z ∈ row := fun z => by
    rw [I.keys, List.mem_map]
    exact ⟨fun ⟨u, hu, e⟩ => by rw [← Sum.inl.inj e]; exact hu, fun h => ⟨z, h, rfl⟩⟩
  cases e : valV kvs (Sum.inl y) with
  | none => exact (decide_eq_false fun z => valV_not e ((m y).mpr z)).symm
  | some v => exact (decide_eq_true ((m y).mp (valV_in e))).symm
theorem bfs_start {ps : List (Int × Int)} {start : Int} {B : List Int} {H : Hp} {rd l0 rw : Addr} (h1 : H rd = none) (h2 : (upd H rd (.dK [])) l0 = none) (h3 : (upd (upd (upd H rd (.dK [])) l0 (.lst [.int start])) rd (.dK [(Sum.inl start, .ref l0)])) rw = none) (hB : start ∈ B) :
    BfsI ps start B H (upd (upd (upd (upd H rd (.dK [])) l0 (.lst [.int start])) rd (.dK [(Sum.inl start, .ref l0)])) rw (.lst [.int start])) rd rw [(Sum.inl start, .ref l0)] [start] := by
  have s1 : Same H (upd H rd (.dK [])) := same_new h1 _
  have s2 := s1.trans (same_new h2 (.lst [.int start]))
  have s3 := same_put s2 h1 (.dK [(Sum.inl start, .ref l0)])
  have hl0 : l0 ≠ rd := by
    intro e
    rw [e, upd_same] at h2
    cases h2
  have hd3 : (upd (upd (upd H rd (.dK [])) l0 (.lst [.int start])) rd (.dK [(Sum.inl start, .ref l0)])) rd = some (.dK [(Sum.inl start, .ref l0)]) := upd_same
  have hl3 : (upd (upd (upd H rd (.dK [])) l0 (.lst [.int start])) rd (.dK [(Sum.inl start, .ref l0)])) l0 = some (.lst [.int start]) := by rw [upd_ne hl0, upd_same]
  refine ⟨s3.trans (same_new h3 _), h1, s3.free h3, ?_, ?_, rfl, by simp, rfl, grown_one ps start, fun z hz => ?_, fun x hx => ?_⟩
  · rw [upd_ne (ne_of_none hd3 h3), hd3]
  · rw [upd_same]
    rfl
  · rw [List.mem_singleton] at hz
    rw [hz]
    exact hB
  · rw [List.mem_singleton] at hx
    subst hx
    refine ⟨l0, [x], valV_pos (p := (Sum.inl x, V.ref l0)) rfl, ?_, ne_of_none hl3 h3, .here, fun z hz => hz⟩
    rw [upd_ne (ne_of_none hl3 h3), hl3]
    rfl
theorem bfs_keep {H2 : Hp} {t p rd rw b : Addr} {o o1 o2 o3 o4 : HO} (ht : H2 t = none) (hp : (upd H2 t o1) p = none) (hb : H2 b = some o) (h1 : b ≠ rd) (h2 : b ≠ rw) : (upd (upd (upd (upd H2 t o1) p o2) rd o3) rw o4) b = some o := by
  have q1 : (upd H2 t o1) b = some o := by rw [upd_ne (ne_of_none hb ht)]; exact hb
  rw [upd_ne h2, upd_ne h1, upd_ne (ne_of_none q1 hp), q1]
theorem bfs_step {ps : List (Int × Int)} {start : Int} {B : List Int} {H H2 : Hp} {rd rw t p a : Addr} {kvs : List (Key × V)} {row l : List Int} {x y : Int} {i : Nat} (I : BfsI ps start B H H2 rd rw kvs row) (hi : row[i]? = some x) (adjxy : adj ps x y) (hy : y ∉ row) (hB : y ∈ B)
    (hl : H2 a = some (.lst (l.map V.int))) (hr : Road ps start l x) (hs : ∀ z ∈ l, z ∈ row) (ht : H2 t = none) (hp : (upd H2 t (.lst [.int y])) p = none) :
    BfsI ps start B H (upd (upd (upd (upd H2 t (.lst [.int y])) p (.lst (l.map V.int ++ [.int y]))) rd (.dK (putK kvs (Sum.inl y) (.ref p)))) rw (.lst (row.map V.int ++ [.int y]))) rd rw (putK kvs (Sum.inl y) (.ref p)) (row ++ [y]) := by
  have st : Same H2 (upd H2 t (.lst [.int y])) := same_new ht _
  have hHp : H p = none := I.same.free (st.free hp)
  have hprd : p ≠ rd := fun e => by rw [e] at hp; rw [st _ _ I.dat] at hp; cases hp
  have hprw : p ≠ rw := fun e => by rw [e] at hp; rw [st _ _ I.rat] at hp; cases hp
  have hv : valV kvs (Sum.inl y) = none := by
    have q := I.in_ y
    rw [decide_eq_false hy] at q
    cases e : valV kvs (Sum.inl y) with
    | none => rfl
    | some v => rw [e] at q; cases q
  refine ⟨same_put (same_put ((I.same.trans st).trans (same_new hp _)) I.newD _) I.newR _, I.newD, I.newR, ?_, ?_, ?_, ?_, ?_, grown_snoc I.grown hi adjxy, fun z hz => ?_, fun u hu => ?_⟩
  · rw [upd_ne I.ne, upd_same]
  · rw [upd_same, List.map_append]
    rfl
  · rw [putK_new _ hv, List.map_append, I.keys, List.map_append]
    rfl
  · rw [List.nodup_append]
    refine ⟨I.nd, by simp, fun a ha b hb => ?_⟩
    rw [List.mem_singleton] at hb
    subst hb
    exact fun e => hy (e ▸ ha)
  · rw [List.getElem?_append_left (List.length_pos_iff.mpr fun e => by have q := I.hd; rw [e] at q; simp at q)]
    exact I.hd
  · rcases List.mem_append.mp hz with hz | hz
    · exact I.sub z hz
    · rw [List.mem_singleton] at hz
      rw [hz]
      exact hB
  · rcases List.mem_append.mp hu with hu | hu
    · obtain ⟨b, m, q1, q2, q3, q4, q5⟩ := I.road u hu
      have huy : ¬ (Sum.inl u : Key) = Sum.inl y := fun e => hy (by rw [← Sum.inl.inj e]; exact hu)
      exact ⟨b, m, by rw [valV_put, if_neg huy]; exact q1, bfs_keep ht hp q2 (ne_of q2 I.dat (by intro z; cases z)) q3, q3, q4, fun z hz => List.mem_append_left _ (q5 z hz)⟩
    · rw [List.mem_singleton] at hu
      subst hu
      refine ⟨p, l ++ [u], by rw [valV_put, if_pos rfl], ?_, hprw, .step hr adjxy (fun h => hy (hs u h)), fun z hz => ?_⟩
      · rw [upd_ne hprw, upd_ne hprd, upd_same, List.map_append]
        rfl
      · rcases List.mem_append.mp hz with hz | hz
        · exact List.mem_append_left _ (hs z hz)
        · exact List.mem_append_right _ hz
/-! ### promises -/
def spNeighbours (K : PySem.W.Frag) : Sp := fun vs H Q _ => ∃ (b : Addr) (xs : List V) (ps : List (Int × Int)), vs = [.ref b] ∧ SqL K H b xs ∧ Prs H xs ps ∧ ps.length ≤ 1000 ∧ ∀ (r : Addr) (H' : Hp), Same H H' → Near H' r ps → Q (.ref r) H'
/-- what stands in a table of roads -/
structure Roads (ps : List (Int × Int)) (start : Int) (B : List Int) (H : Hp) (rd : Addr) (kvs : List (Key × V)) (row : List Int) : Prop where
  dat : H rd = some (.dK kvs)
  keys : kvs.map (·.1) = row.map Sum.inl
  nd : row.Nodup
  hd : row[0]? = some start
  grown : Grown ps row
  shut : Shut ps row
  sub : ∀ z ∈ row, z ∈ B
  road : ∀ x ∈ row, ∃ (a : Addr) (l : List Int), valV kvs (Sum.inl x) = some (.ref a) ∧ H a = some (.lst (l.map V.int)) ∧ Road ps start l x
  has : ∀ y, (valV kvs (Sum.inl y)).isSome = decide (y ∈ row)
def spRoadsFrom : Sp := fun vs H Q _ => ∃ (start : Int) (nr : Addr) (ps : List (Int × Int)) (B : List Int), vs = [.int start, .ref nr] ∧ Near H nr ps ∧ ps.length ≤ 1000 ∧ B.length < 64 ∧ start ∈ B ∧ (∀ b ∈ ps, b.1 ∈ B ∧ b.2 ∈ B) ∧
  ∀ (r : Addr) (H' : Hp) (kvs : List (Key × V)) (row : List Int), Same H H' → H r = none → Roads ps start B H' r kvs row → Q (.ref r) H'
/-- a list of lists of ints -/
abbrev Rws (H : Hp) : List V → List (List Int) → Prop := Paired fun v row => ∃ a, v = V.ref a ∧ H a = some (.lst (row.map V.int))
def spGroups (K : PySem.W.Frag) : Sp := fun vs H Q _ => ∃ (a b : Addr) (B : List Int) (xs : List V) (ps : List (Int × Int)), vs = [.ref a, .ref b] ∧ SqL K H a (B.map V.int) ∧ SqL K H b xs ∧ Prs H xs ps ∧ ps.length ≤ 1000 ∧ B.length < 64 ∧ B.Nodup ∧ (∀ b ∈ ps, b.1 ∈ B ∧ b.2 ∈ B) ∧
  ∀ (r : Addr) (H' : Hp) (gs : List V) (rows : List (List Int)) (ss : List Int), Same H H' → H' r = some (.lst gs) → Rws H' gs rows → (∀ z, z ∈ ss ↔ z ∈ B) → Grps ps B ss rows → Q (.ref r) H'
end HW
namespace HW
open PySem PySem.Spec PyProof.Rows L2
theorem BfsI.up {ps : List (Int × Int)} {start : Int} {B : List Int} {H H2 H3 : Hp} {rd rw : Addr} {kvs : List (Key × V)} {row : List Int} (I : BfsI ps start B H H2 rd rw kvs row) (s : Same H2 H3) : BfsI ps start B H H3 rd rw kvs row :=
  ⟨I.same.trans s, I.newD, I.newR, s _ _ I.dat, s _ _ I.rat, I.keys, I.nd, I.hd, I.grown, I.sub, fun x hx => by
    obtain ⟨a, l, q1, q2, q3, q4, q5⟩ := I.road x hx
    exact ⟨a, l, q1, s _ _ q2, q3, q4, q5⟩⟩
theorem BfsI.done {ps : List (Int × Int)} {start : Int} {B : List Int} {H H2 : Hp} {rd rw : Addr} {kvs : List (Key × V)} {row : List Int} (I : BfsI ps start B H H2 rd rw kvs row) (s : ShutTo ps row row.length) : Roads ps start B H2 rd kvs row :=
  ⟨I.dat, I.keys, I.nd, I.hd, I.grown, shut_of s, I.sub, fun x hx => by
    obtain ⟨a, l, q1, q2, _, q4, _⟩ := I.road x hx
    exact ⟨a, l, q1, q2, q4⟩, I.in_⟩
/-- rows that stand apart from f -/
abbrev RwsN (f : Addr) (H : Hp) : List V → List (List Int) → Prop := Paired fun v row => ∃ a, v = V.ref a ∧ a ≠ f ∧ H a = some (.lst (row.map V.int))
def muK (σ : St) : Nat := match σ with
  | [_, _, _, _, some (.int k), _, _] => (64 - k).toNat
  | _ => 0
end HW
namespace HW
open PySem PySem.Spec PyProof.Rows L2
def spSpanning (K : PySem.W.Frag) : Sp := fun vs H Q _ => ∃ (c : Addr) (ns : List Int) (size hop : Int), vs = [.ref c, .int size, .int hop] ∧ SqL K H c (ns.map V.int) ∧ ns.length ≤ 63 ∧ 1 ≤ hop ∧ hop + 1 ≤ size ∧
  ∀ (r : Addr) (H' : Hp) (xs : List V) (ps : List (Int × Int)), Same H H' → H r = none → H' r = some (.lst xs) → Prs H' xs ps → ps.length ≤ ns.length → Within ps size → (∀ b ∈ ps, b.1 ≠ b.2) → Q (.ref r) H'
def spIsRow : Sp := fun vs H Q _ => ∃ (a : Addr) (ns : List Int), vs = [.ref a] ∧ H a = some (.lst (ns.map V.int)) ∧ Q (.bl true) H
def spGrown (K : PySem.W.Frag) : Sp := fun vs H Q _ => ∃ (r b : Addr) (row B : List Int) (xs : List V) (ps : List (Int × Int)), vs = [.ref r, .ref b] ∧ SqL K H r (row.map V.int) ∧ SqL K H b xs ∧ Prs H xs ps ∧ row.length ≤ 1000 ∧ ps.length ≤ 1000 ∧ RowOk ps B row ∧ ∀ H', Same H H' → Q (.bl true) H'
def spEachOnce (K : PySem.W.Frag) : Sp := fun vs H Q _ => ∃ (r pl : Addr) (gs : List V) (rows : List (List Int)) (B : List Int), vs = [.ref r, .ref pl] ∧ SqL K H r gs ∧ Rws H gs rows ∧ SqL K H pl (B.map V.int) ∧ rows.flatten.Nodup ∧ (∀ z ∈ rows.flatten, z ∈ B) ∧ rows.flatten.length = B.length ∧ B.length ≤ 1000 ∧
  ∀ H', Same H H' → Q (.bl true) H'
/-- the pair touches z from T -/
def Hit (z : Int) (T : List Int) (b : Int × Int) : Prop := (b.1 = z ∧ b.2 ∈ T) ∨ (b.2 = z ∧ b.1 ∈ T)
end HW
namespace HW
open L2
theorem hop5 (z : Int) : ∃ h : Int, atI ([.int 1, .int 2, .int 3, .int 4, .int 97] : List V) (z % 5) = some (.int h) ∧ 1 ≤ h := by
  have hz : z % 5 = 0 ∨ z % 5 = 1 ∨ z % 5 = 2 ∨ z % 5 = 3 ∨ z % 5 = 4 := by omega
  rcases hz with e | e | e | e | e
  · rw [e]; exact ⟨1, rfl, by decide⟩
  · rw [e]; exact ⟨2, rfl, by decide⟩
  · rw [e]; exact ⟨3, rfl, by decide⟩
  · rw [e]; exact ⟨4, rfl, by decide⟩
  · rw [e]; exact ⟨97, rfl, by decide⟩
end HW
namespace HW
end HW
end
section
set_option Elab.async false
set_option linter.all false
set_option maxRecDepth 100000
namespace HW
open PySem PySem.Spec PyProof.Rows L2
/-! ### an exception that flies -/
def FlyAt (h : Heap) (e T : Addr) (cls : Value) : Prop :=
  ∃ (oe : Obj) (vs : Array Value) (oT : Obj) (ts : Array Value) (a0 : Value), h.get? e = some oe ∧ (oe.cls = cls ∧ vs[0]? = some a0) ∧ oe.data = .fields vs ∧ vs[1]? = some (.ref T) ∧ T ≠ e ∧ h.get? T = some oT ∧ oT.data = .fields ts ∧ ts[3]? = some .none
theorem FlyAt.traced {h B : Heap} {e T : Addr} {cls : Value} (x : FlyAt h e T cls) (hT : B.get? T = none) : ∃ a0, h.TracedW B e cls a0 := by
  obtain ⟨oe, vs, oT, ts, a0, h1, h2, h3, h4, h5, h6, h7, h8⟩ := x
  exact ⟨a0, oe, vs, T, oT, ts, h1, h2, h3, h4, hT, h5, h6, h7, h8⟩
theorem fly_of {h B : Heap} {e : Addr} {cls a0 : Value} (x : h.TracedW B e cls a0) : ∃ T, FlyAt h e T cls ∧ B.get? T = none ∧ T ≠ e ∧ ∃ oT ts, h.get? T = some oT ∧ oT.data = .fields ts := by
  obtain ⟨oe, vs, T, oT, ts, h1, h2, h3, h4, hT, h5, h6, h7, h8⟩ := x
  exact ⟨T, ⟨oe, vs, oT, ts, a0, h1, h2, h3, h4, h5, h6, h7, h8⟩, hT, h5, oT, ts, h6, h7⟩
theorem FlyAt.obj {h : Heap} {e T : Addr} {cls : Value} (x : FlyAt h e T cls) : ∃ oe vs, h.get? e = some oe ∧ oe.cls = cls ∧ oe.data = .fields vs := by
  obtain ⟨oe, vs, oT, ts, a0, h1, h2, h3, _⟩ := x
  exact ⟨oe, vs, h1, h2.1, h3⟩
/-- how an exception lies behind a call -/
def CX1 (P : Program) (w : World) : CXT := fun outer H s E e s' => ∃ (ea T : Addr) (cls : Value) (H' : Hp), e = .ref ea ∧ s'.os = s.os ∧ AllBare s'.gens ∧ Un (frs outer) [] H H' s.heap s'.heap ∧ HOk P w H' s'.heap ∧ FlyAt s'.heap ea T cls ∧
  s.heap.get? ea = none ∧ s.heap.get? T = none ∧ H' ea = none ∧ H' T = none ∧ E cls none H'
theorem objOk_there {P : Program} {w : World} {H : Hp} {h : Heap} {a : Addr} {o : HO} (x : ObjOk P w H h a o) : ∃ u, h.get? a = some u := by
  cases o with
  | lst xs => obtain ⟨_, _, _, _, e⟩ := x; exact ⟨_, e⟩
  | tup xs => obtain ⟨_, _, _, ob, e, _⟩ := x; exact ⟨_, e⟩
  | dK kvs => obtain ⟨_, _, _, _, ob, _, _, e, _⟩ := x; exact ⟨_, e⟩
  | dT kvs => obtain ⟨_, _, _, _, ob, _, _, e, _⟩ := x; exact ⟨_, e⟩
  | set S n => obtain ⟨ob, _, _, _, e, _⟩ := x; exact ⟨_, e⟩
  | ins C dx fs => obtain ⟨_, _, _, e, _⟩ := x; exact ⟨_, e⟩
  | own y => exact x
  | xd fs => obtain ⟨_, ⟨_, _, _, e, _⟩, _⟩ := x; exact ⟨_, e⟩
  | rng lo hi => obtain ⟨_, _, _, e⟩ := x; exact ⟨_, e⟩
  | frz ob u => obtain ⟨e, _⟩ := x; exact ⟨_, e⟩
  | tbl ps => exact ⟨_, x⟩
  | met f y => exact ⟨_, x⟩
  | ext φ => exact x.2.1
theorem free_of {P : Program} {w : World} {H : Hp} {h : Heap} {a : Addr} (ok : HOk P w H h) (e : h.get? a = none) : H a = none := by
  cases q : H a with
  | none => rfl
  | some o =>
    obtain ⟨u, hu⟩ := objOk_there (ok a o q)
    rw [e] at hu
    cases hu
/-- what is tracked is kept -/
theorem hok_kept {P : Program} {w : World} {H : Hp} {h h' : Heap} (ok : HOk P w H h) (k : ∀ b u, H b ≠ none → h.get? b = some u → h'.get? b = some u) : HOk P w H h' := fun a o e =>
  (ok a o e).stay (fun b u hb q => k b u (by
    rcases hb with z | z
    · rw [z, e]
      exact fun y => nomatch y
    · rw [z]
      exact fun y => nomatch y) q) (fun _ q => q) fun _ _ q => q
theorem un_on {fs : List Addr} {H H' : Hp} {h h' h'' : Heap} {ea T : Addr} (u : Un fs [] H H' h h') (k : ∀ b o, h'.get? b = some o → b ∉ ea :: T :: fs → (∃ v, h.get? b = some v) → h''.get? b = some o)
    (sl : ∀ b o, h'.get? b = some o → b ∈ fs → ∃ s, h''.get? b = some { o with slots := s }) (h1 : h.get? ea = none) (h2 : h.get? T = none) : Un fs [] H H' h h'' := by
  have nn : ∀ {b : Addr} {o : Obj}, h.get? b = some o → b ∉ fs → b ∉ ea :: T :: fs := fun {b o} q hb m => by
    rcases List.mem_cons.mp m with e | m
    · rw [e, h1] at q
      cases q
    · rcases List.mem_cons.mp m with e | m
      · rw [e, h2] at q
        cases q
      · exact hb m
  refine ⟨fun b o q n hb hx => k b o (u.keep b o q n hb hx) (nn q hb) ⟨_, q⟩, fun b o q n hb hx => ?_, u.free, fun b o q hx => ?_, u.tups, u.frzs, u.tbls⟩
  · obtain ⟨s1, e1⟩ := u.slot b o q n hb hx
    obtain ⟨s2, e2⟩ := sl b _ e1 hb
    exact ⟨s2, e2⟩
  · obtain ⟨o', e1⟩ := u.there b o q hx
    by_cases hb : b ∈ fs
    · obtain ⟨s2, e2⟩ := sl b _ e1 hb
      exact ⟨_, e2⟩
    · exact ⟨_, k b o' e1 (nn q hb) ⟨_, q⟩⟩
section
variable {X : Cx} {pins : List (Addr × Obj)} {σ : St} {H H' : Hp} {s s' : Shared} {ea T : Addr} {h'' : Heap} {M : Model} {E2 : Value → Shared → Prop}
/-- the frames' objects are no records -/
theorem frame_data (I : Inv X pins σ H s) {b : Addr} (hb : b ∈ frs X.stack) : ∃ o, s.heap.get? b = some o ∧ ∀ vs, o.data ≠ .fields vs := (I.stack.mem hb).2
theorem hide_stays (h : Heap) (l : List Addr) : (PySem.W.hideAll h l).StaysIn h := fun b o q => PySem.W.of_hideAll l q
theorem frames_hidden (I : Inv X pins σ H s) {l : List Addr} (hl : ∀ b ∈ frs X.stack, b ∈ l) : s.heap.FunFrames (PySem.W.hideAll s.heap l) X.stack :=
  PySem.W.funFrames_hide I.stack fun env he a ha => hl a (List.mem_filterMap.mpr ⟨env, he, ha⟩)
/-- the state behind: the exception's record and its trace may have changed, the frames' slots too -/
theorem land (I : Inv X pins σ H s) (os : s'.os = s.os) (bare : AllBare s'.gens) (u : Un (frs X.stack) [] H H' s.heap s'.heap) (hok : HOk X.prog X.w H' s'.heap) (h1 : s.heap.get? ea = none) (h2 : s.heap.get? T = none) (n1 : H' ea = none) (n2 : H' T = none)
    (k : ∀ b o, s'.heap.get? b = some o → b ∉ ea :: T :: frs X.stack → ((∃ v, s.heap.get? b = some v) ∨ H' b ≠ none) → h''.get? b = some o) (up : s'.heap.UpToSlots h'') : Inv X pins σ H' { s' with heap := h'' } := by
  have I' : Inv X pins σ H' s' := I.call' os u hok bare (ch := []) fun b z => absurd z (by simp)
  have hsl : ∀ b o, s'.heap.get? b = some o → b ∈ frs X.stack → ∃ sl, h''.get? b = some { o with slots := sl } := fun b o q hb => by
    obtain ⟨o', e, d⟩ := frame_data I' hb
    rw [q] at e
    cases e
    exact up b o q d
  have hok2 : HOk X.prog X.w H' h'' := hok_kept hok fun b v hb q => k b v q (fun m => by
    rcases List.mem_cons.mp m with e | m
    · exact hb (by rw [e]; exact n1)
    · rcases List.mem_cons.mp m with e | m
      · exact hb (by rw [e]; exact n2)
      · exact hb (I'.stkFree b m)) (.inr hb)
  exact I.call' (s' := { s' with heap := h'' }) os (un_on u (fun b o q hb c => k b o q hb (.inl c)) hsl h1 h2) hok2 bare (ch := []) fun b z => absurd z (by simp)
/-- it leaves the frame: made here -/
theorem cx_made (I : Inv X pins σ H s) (hst : X.stack = X.env :: X.outer) (hfm : X.env.frame = some X.env.locals) (hex : X.ex = []) {h' : Heap} {e : Addr} {cls : Value} {vs : List Value} (m : Heap.MadeExcOf s.heap h' e cls vs) {E : XK} (q : E cls none H) :
    wpAny M X.A (leaving X.env (.ref e)) (fun _ s'' => CX1 X.prog X.w X.outer X.H₀ X.s₀ E (.ref e) s'') E2 { s with heap := h' } := by
  have hfr := I.ok.frames
  rw [hst] at hfr
  have hl := frames_hidden I (l := frs X.stack) fun b hb => hb
  rw [hst] at hl
  refine wpAny_leaves_madeW (s := { s with heap := h' }) (base := PySem.W.hideAll s.heap (frs X.stack)) hfr hfm (hide_stays _ _) (by rw [hst]; exact hl) m fun h'' t fl tup ht up => ?_
  obtain ⟨k1, k2, k3, k4⟩ := fl
  obtain ⟨T, fly, bT, hTe, oT, ts, hT, dT⟩ := fly_of k4
  have nT : T ∉ frs X.stack := fun hb => by
    obtain ⟨o, e1, d⟩ := frame_data I hb
    obtain ⟨sl, e2⟩ := up T o (m.keeps _ _ e1) d
    rw [hT] at e2
    cases e2
    exact d ts dT
  have sT : s.heap.get? T = none := by
    cases z : s.heap.get? T with
    | none => rfl
    | some o =>
      rw [PySem.W.hideAll_get _ z nT] at bT
      cases bT
  have I1 : Inv X pins σ H { s with heap := h'' } := by
    refine land (s' := { s with heap := h' }) (ea := e) (T := T) I rfl I.bare (Un.kept m.keeps) (I.hok.kept m.keeps) m.new sT (free_of I.hok m.new) (free_of I.hok sT) (fun b o q hb c => ?_) up
    have hb' : b ∉ frs X.stack := fun z => hb (List.mem_cons_of_mem _ (List.mem_cons_of_mem _ z))
    have c2 : ∃ o', s.heap.get? b = some o' := by
      rcases c with c | c
      · exact c
      · cases z : H b with
        | none => exact absurd z c
        | some ob => exact objOk_there (I.hok b ob z)
    obtain ⟨o', c2⟩ := c2
    have e1 := m.keeps _ _ c2
    have q' : h'.get? b = some o := q
    rw [q'] at e1
    cases e1
    exact k1 b o (PySem.W.hideAll_get _ c2 hb')
  have un := I1.base
  rw [hex] at un
  have z0 : ∀ b : Addr, s.heap.get? b = none → X.s₀.heap.get? b = none := fun b hb => by
    cases z : X.s₀.heap.get? b with
    | none => rfl
    | some o =>
      obtain ⟨o', e'⟩ := I.base.there b o z (by rw [hex]; simp)
      rw [hb] at e'
      cases e'
  exact ⟨e, T, cls, H, rfl, I1.os, I1.bare, un, I1.hok, fly, z0 _ m.new, z0 _ sT, free_of I.hok m.new, free_of I.hok sT, q⟩
/-- an exception that flies: what may change with it -/
theorem cx_on (I : Inv X pins σ H s) {E : XK} (c : CX1 X.prog X.w X.stack H s E (.ref ea) s') : ∃ (l : List Addr) (cls a0 : Value), s'.heap.TracedW (PySem.W.hideAll s'.heap l) ea cls a0 ∧ (PySem.W.hideAll s'.heap l).get? ea = none ∧ s'.heap.FunFrames (PySem.W.hideAll s'.heap l) X.stack ∧
    ∀ h'' : Heap, (PySem.W.hideAll s'.heap l).StaysIn h'' → h''.TracedW (PySem.W.hideAll s'.heap l) ea cls a0 → s'.heap.UpToSlots h'' → CX1 X.prog X.w X.stack H s E (.ref ea) { s' with heap := h'' } := by
  obtain ⟨ea', T, cls, H', e0, os, bare, u, hok, fly, h1, h2, n1, n2, q⟩ := c
  injection e0 with e0
  subst e0
  have I' : Inv X pins σ H' s' := I.call' os u hok bare (ch := []) fun b z => absurd z (by simp)
  obtain ⟨a0, tr⟩ := fly.traced (B := PySem.W.hideAll s'.heap (ea :: T :: frs X.stack)) (PySem.W.hideAll_none _ (by simp))
  refine ⟨ea :: T :: frs X.stack, cls, a0, tr, PySem.W.hideAll_none _ (by simp), frames_hidden I' fun b hb => by simp [hb], fun h'' k1 k4 up => ?_⟩
  obtain ⟨T', fly', bT, hTe, oT, ts, hT, dT⟩ := fly_of k4
  have nT : T' ∉ frs X.stack := fun hb => by
    obtain ⟨o, e1, d⟩ := frame_data I' hb
    obtain ⟨sl, e2⟩ := up T' o e1 d
    rw [hT] at e2
    cases e2
    exact d ts dT
  have kk : ∀ b o, s'.heap.get? b = some o → b ∉ ea :: T :: frs X.stack → h''.get? b = some o := fun b o q hb => k1 b o (PySem.W.hideAll_get _ q hb)
  have hsl : ∀ b o, s'.heap.get? b = some o → b ∈ frs X.stack → ∃ sl, h''.get? b = some { o with slots := sl } := fun b o q hb => by
    obtain ⟨o', e, d⟩ := frame_data I' hb
    rw [q] at e
    cases e
    exact up b o q d
  have I1 : Inv X pins σ H' { s' with heap := h'' } := land I os bare u hok h1 h2 n1 n2 (fun b o q hb _ => kk b o q hb) up
  have tT : s.heap.get? T' = none ∧ H' T' = none := by
    by_cases c : T' = T
    · rw [c]
      exact ⟨h2, n2⟩
    · have z : s'.heap.get? T' = none := by
        cases z : s'.heap.get? T' with
        | none => rfl
        | some o =>
          rw [PySem.W.hideAll_get _ z (by simp only [List.mem_cons, not_or]; exact ⟨hTe, c, nT⟩)] at bT
          cases bT
      refine ⟨?_, free_of hok z⟩
      cases y : s.heap.get? T' with
      | none => rfl
      | some o =>
        obtain ⟨o', e'⟩ := u.there T' o y (by simp)
        rw [z] at e'
        cases e'
  exact ⟨ea, T', cls, H', rfl, os, bare, un_on u (fun b o q hb _ => kk b o q hb) hsl h1 h2, I1.hok, fly', h1, tT.1, n1, tT.2, q⟩
/-- seen from the callers -/
theorem cx_out (I : Inv X pins σ H s) (hex : X.ex = []) {e : Value} {E : XK} (c : CX1 X.prog X.w X.stack H s E e s') : CX1 X.prog X.w X.outer X.H₀ X.s₀ E e s' := by
  obtain ⟨ea, T, cls, H', e0, os, bare, u, hok, fly, h1, h2, n1, n2, q⟩ := c
  have I' : Inv X pins σ H' s' := I.call' os u hok bare (ch := []) fun b z => absurd z (by simp)
  have un := I'.base
  rw [hex] at un
  have z0 : ∀ b : Addr, s.heap.get? b = none → X.s₀.heap.get? b = none := fun b hb => by
    cases z : X.s₀.heap.get? b with
    | none => rfl
    | some o =>
      obtain ⟨o', e'⟩ := I.base.there b o z (by rw [hex]; simp)
      rw [hb] at e'
      cases e'
  exact ⟨ea, T, cls, H', e0, I'.os, I'.bare, un, I'.hok, fly, z0 _ h1, z0 _ h2, n1, n2, q⟩
/-- the state under an exception that flies -/
theorem cx_inv (I : Inv X pins σ H s) {e : Value} {E : XK} (c : CX1 X.prog X.w X.stack H s E e s') :
    ∃ (ea : Addr) (oe : Obj) (H' : Hp), e = .ref ea ∧ Inv X pins σ H' s' ∧ s'.heap.get? ea = some oe ∧ (∀ v, oe.data ≠ .cell v) ∧ H' ea = none ∧ ea ≠ X.env.locals ∧ ea ∉ X.fs ∧ E oe.cls none H' := by
  obtain ⟨ea, T, cls, H', e0, os, bare, u, hok, fly, h1, h2, n1, n2, q⟩ := c
  obtain ⟨oe, vs, g1, g2, g3⟩ := fly.obj
  refine ⟨ea, oe, H', e0, I.call' os u hok bare (ch := []) fun b z => absurd z (by simp), g1, fun v z => (by rw [g3] at z; cases z), n1, fun z => ?_, fun z => ?_, by rw [g2]; exact q⟩
  · obtain ⟨m, ⟨o, _, _, ho, _⟩, _⟩ := I.loc
    rw [← z, h1] at ho
    cases ho
  · obtain ⟨_, o, ho, _⟩ := I.ok.funs.mem z
    obtain ⟨o', e'⟩ := I.base.there ea o ho fun y => I.ok.exfs ea y z
    rw [h1] at e'
    cases e'
/-- an exception of a callee leaves this frame too -/
theorem cx_pass (I : Inv X pins σ H s) (hst : X.stack = X.env :: X.outer) (hfm : X.env.frame = some X.env.locals) (hex : X.ex = []) {e : Value} {E : XK} (c : CX1 X.prog X.w X.stack H s E e s') :
    wpAny M X.A (leaving X.env e) (fun _ s'' => CX1 X.prog X.w X.outer X.H₀ X.s₀ E e s'') E2 s' := by
  obtain ⟨ea, oe, H', rfl, _⟩ := cx_inv I c
  obtain ⟨l, cls, a0, tr, be, ff, kk⟩ := cx_on I c
  have hfr := I.ok.frames
  rw [hst] at hfr ff
  refine wpAny_leaves_onW hfr hfm ⟨hide_stays _ _, be, ff, tr⟩ fun h'' fl up => ?_
  exact cx_out I hex (kk h'' fl.1 fl.2.2.2 up)
/-- it is looked at in this frame -/
theorem cx_look (I : Inv X pins σ H s) (hst : X.stack = X.env :: X.outer) (hfm : X.env.frame = some X.env.locals) {e : Value} {E : XK} (c : CX1 X.prog X.w X.stack H s E e s') {R : Shared → Prop} (k : ∀ s2, CX1 X.prog X.w X.stack H s E e s2 → R s2) :
    wpAny M X.A (noteFrame e X.env) (fun _ s2 => wpAny M X.A (setFlight e none) (fun _ s3 => R s3) E2 s2) E2 s' := by
  obtain ⟨ea, oe, H', rfl, _⟩ := cx_inv I c
  obtain ⟨l, cls, a0, tr, be, ff, kk⟩ := cx_on I c
  have hfr := I.ok.frames
  rw [hst] at hfr ff
  refine wpAny_looks_onW hfr hfm ⟨hide_stays _ _, be, ff, tr⟩ fun h2 held up => ?_
  refine wpAny_landsW (s := { s' with heap := h2 }) held fun h3 fl up2 => ?_
  exact k _ (kk h3 fl.1 fl.2.2.2 (up.trans up2))
theorem cx_again {A' : Around} (I : Inv X pins σ H s) {e : Value} {E : XK} (c : CX1 X.prog X.w X.stack H s E e s') {R : Shared → Prop} (k : ∀ s2, CX1 X.prog X.w X.stack H s E e s2 → R s2) : wpAny M A' (setFlight e none) (fun _ s3 => R s3) E2 s' := by
  obtain ⟨ea, oe, H', rfl, _⟩ := cx_inv I c
  obtain ⟨l, cls, a0, tr, be, ff, kk⟩ := cx_on I c
  exact lands_againW ⟨hide_stays _ _, be, ff, tr⟩ fun h2 fl up => k _ (kk h2 fl.1 fl.2.2.2 up)
end
/-! ### in a handler -/
/-- within a handler's suite: the exception stands pinned -/
def hand (X : Cx) (ea : Addr) (oe : Obj) : Cx := { X with A := X.A.mark (some (.ref ea)), calm := false, pn := (ea, oe) :: X.pn, xe := fun _ _ => False }
section
variable {X : Cx} {pins : List (Addr × Obj)} {σ : St} {H : Hp} {s : Shared} {ea : Addr} {oe : Obj}
theorem hand_inv (I : Inv X pins σ H s) (h1 : s.heap.get? ea = some oe) (h2 : ∀ v, oe.data ≠ .cell v) (h3 : H ea = none) (h4 : ea ≠ X.env.locals) (h5 : ea ∉ X.fs) : Inv (hand X ea oe) pins σ H s := by
  have ok := I.ok
  refine ⟨⟨ok.mod, ok.kind, ok.glob, ok.blt, ok.above, ok.inj, ok.has, ok.cab, (fun z => nomatch z), ok.frames, ok.stk, ok.exf, ok.bs, ok.bsz, ok.noex, ok.exfs, ok.funs, ok.frf⟩, I.os, I.bare, I.base, I.loc, I.cell, I.free, I.freeC, fun p hp => ?_, I.hok, I.len⟩
  rcases List.mem_cons.mp (show p ∈ (ea, oe) :: (X.pn ++ pins) from hp) with e | hp
  · subst e
    exact ⟨h1, h3, h4, h5, h2⟩
  · exact I.pin p hp
theorem hand_back (ok : X.Ok) (I : Inv (hand X ea oe) pins σ H s) : Inv X pins σ H s :=
  ⟨ok, I.os, I.bare, I.base, I.loc, I.cell, I.free, I.freeC, fun p hp => I.pin p (List.mem_cons_of_mem _ hp), I.hok, I.len⟩
theorem hand_sp (ok : X.Ok) {D : Ends} {f : Flow} (h : SP (hand X ea oe) pins D f s) : SP X pins D f s := by
  cases f with
  | next => obtain ⟨σ', H', I, q⟩ := h; exact ⟨σ', H', hand_back ok I, q⟩
  | brk => obtain ⟨σ', H', I, q⟩ := h; exact ⟨σ', H', hand_back ok I, q⟩
  | cont => obtain ⟨σ', H', I, q⟩ := h; exact ⟨σ', H', hand_back ok I, q⟩
  | ret u => obtain ⟨v, σ', H', I, r, q⟩ := h; exact ⟨v, σ', H', hand_back ok I, r, q⟩
end
end HW
end
section
set_option Elab.async false
set_option linter.all false
set_option maxRecDepth 100000
namespace HW
open PySem PySem.Spec PyProof.Rows L2
section
variable {K : PySem.W.Frag} {x c t : Value} {Hh : Heap → Prop}
end
theorem kit_of_exm {K : PySem.W.Frag} {cls c : Value} (e : PySem.W.exmOne K cls c = some true) : PySem.W.kitOne K cls c = some true := by
  unfold PySem.W.exmOne at e
  split at e
  · unfold PySem.W.kitOne
    split
    · rfl
    · exact e
  · cases e
theorem cx_fix {P : Program} {w : World} {outer : List Env} {H : Hp} {s s' : Shared} {E : XK} {e : Value} (c : CX1 P w outer H s E e s') : ∃ cls, CX1 P w outer H s (fun c' _ H' => c' = cls ∧ E cls none H') e s' := by
  obtain ⟨ea, T, cls, H', e0, os, bare, u, hok, fly, h1, h2, n1, n2, q⟩ := c
  exact ⟨cls, ea, T, cls, H', e0, os, bare, u, hok, fly, h1, h2, n1, n2, rfl, q⟩
theorem cx_imp {P : Program} {w : World} {outer : List Env} {H : Hp} {s s' : Shared} {E E' : XK} {e : Value} (c : CX1 P w outer H s E e s') (h : ∀ cls H', E cls none H' → E' cls none H') : CX1 P w outer H s E' e s' := by
  obtain ⟨ea, T, cls, H', e0, os, bare, u, hok, fly, h1, h2, n1, n2, q⟩ := c
  exact ⟨ea, T, cls, H', e0, os, bare, u, hok, fly, h1, h2, n1, n2, h _ _ q⟩
/-! ### the clauses of a try -/
abbrev TH := Value → Addr → TS
def PH (X : Cx) (hs : List ExceptHandler) (t : TH) : Prop := ∀ (pins : List (Addr × Obj)) (s0 s : Shared) (σ : St) (H0 : Hp) (D : Ends) (ea : Addr), Inv X pins σ H0 s0 → CX1 X.prog X.w X.stack H0 s0 (fun cls _ H' => t cls ea D σ H') (.ref ea) s →
  wpAny (model X.prog X.w) X.A (handleBy (.ref ea) X.env hs) (SP X pins D) X.xe s
section
variable {X : Cx}
/-- except C: .. -/
theorem ph_plain {x : Str} {np pos : Pos} {c : Value} {b₀ : Stmt} {suite : List Stmt} {rest : List ExceptHandler} {ts tr : TH} (hg : Gl X x) (hm : X.mg x = some c) (hs : ∀ ea oe cls, oe.cls = cls → PSs (hand X ea oe) (b₀ :: suite) (ts cls ea)) (hr : PH X rest tr)
    (hdb : (x == ("__debug__" : Str)) = false := by decide) :
    PH X (.ExceptHandler (some (.Name x np)) none (b₀ :: suite) pos :: rest) (fun cls ea D σ H => ∃ b, PySem.W.exmOne X.K cls c = some b ∧ if b = true then ts cls ea D σ H else tr cls ea D σ H) := by
  intro pins s0 s σ H0 D ea I c0
  obtain ⟨cls, c1⟩ := cx_fix c0
  obtain ⟨ea', oe, H', e0, I', g1, g2, g3, g4, g5, ec, b, hx, q⟩ := cx_inv I c1
  injection e0 with e0
  subst e0
  have Ih : Inv (hand X ea oe) pins σ H' s := hand_inv I' g1 g2 g3 g4 g5
  refine wpAny_handleBy_cons (codeAny_handlers_test ?_) (by intro z; cases z)
  refine ld_glob (X := hand X ea oe) Ih hg hm ?_ hdb
  have LT : PySem.W.Looks (model X.prog X.w) s.heap (typeOf (.ref ea)) cls := by
    rw [← ec]
    exact (PySem.W.Looks.ld g1).andThen .now
  refine PySem.W.exm_one I'.kIn LT hx _ _ _ s (fun _ _ z => z) ?_
  cases b with
  | true =>
    refine codeAny_handlers_suite (cx_again I c1 fun s2 c2 => ?_)
    obtain ⟨ea', oe2, H2, e0, I2, k1, k2, k3, k4, k5, ec2, b2, hx2, q2⟩ := cx_inv I c2
    injection e0 with e0
    subst e0
    rw [hx] at hx2
    cases hx2
    rw [if_pos rfl] at q2
    exact wpAny_mono (hs ea oe2 cls ec2 pins s2 σ H2 D (hand_inv I2 k1 k2 k3 k4 k5) q2) (fun f s3 h => hand_sp I.ok h) fun _ _ z => False.elim z
  | false =>
    refine hr pins s0 s σ H0 D ea I (cx_imp c1 fun cls' H2 z => ?_)
    obtain ⟨rfl, b2, hx2, q2⟩ := z
    rw [hx] at hx2
    cases hx2
    rw [if_neg Bool.false_ne_true] at q2
    exact q2
/-- a name goes -/
theorem name_goes {M : Model} {A : Around} {E : Value → Shared → Prop} {pins : List (Addr × Obj)} {σ : St} {H : Hp} {s : Shared} {i : Nat} {x : Str} {pos : Pos} {Q : Unit → Shared → Prop} (I : Inv X pins σ H s) (hN : X.N.Nodup) (hi : X.N[i]? = some x) (hk : X.env.kindOf x = some .local)
    (h : ∀ s', Inv X pins (σ.set i none) H s' → Q () s') : wpAny M A (do bindName X.env x .none; unbindBehindTheSuite X.env x pos) Q E s := by
  obtain ⟨m, hn, hl⟩ := id I.loc
  have hcls : (X.env.scope.kind == .class || (X.env.scope.kind == .module && X.env.locals != X.env.globals)) = false := by rw [I.ok.kind]; rfl
  have hiσ : i < σ.length := by rw [I.len]; exact (List.getElem?_eq_some_iff.mp hi).1
  refine wpAny_nameGoes_keeps hk hn hcls fun h' v hn' hs => ?_
  have old : ∀ {b : Addr} {o : Obj}, X.s₀.heap.get? b = some o → b ≠ X.env.locals := fun {b o} e => Nat.ne_of_lt (Nat.lt_of_lt_of_le (Heap.lt_size e) I.ok.above)
  refine h _ ⟨I.ok, I.os, I.bare, ⟨fun b o e n hb hx => (hs.2 b (old e)).trans (I.base.keep b o e n hb hx), fun b o e n hb hx => ?_, I.base.free, fun b o e hx => ?_, I.base.tups, I.base.frzs, I.base.tbls⟩, ⟨_, hn', fun j y v' e1 e2 e3 => ?_⟩, fun y d e => ?_, I.free, I.freeC, fun p hp => ?_,
    hok_kept I.hok fun b u hb q => (hs.2 b fun z => hb (by rw [z]; exact I.free)).trans q, by simpa using I.len⟩
  · obtain ⟨sl, e1⟩ := I.base.slot b o e n hb hx
    exact ⟨sl, (hs.2 b (old e)).trans e1⟩
  · obtain ⟨o', e1⟩ := I.base.there b o e hx
    exact ⟨o', (hs.2 b (old e)).trans e1⟩
  · have hj : j ≠ i := fun z => by
      subst z
      rw [List.getElem?_set_self hiσ] at e2
      cases e2
    rw [List.getElem?_set_ne (Ne.symm hj)] at e2
    obtain ⟨u', r', q⟩ := hl j y v' e1 e2 e3
    refine ⟨u', r', ?_⟩
    rcases q with ⟨k, e⟩ | ⟨k, d, e, z⟩
    · have ny : y ≠ x := fun z => hj (nodup_ix hN e1 (z ▸ hi))
      have e5 : (if y = x then v else m y) = some u' := by rw [if_neg ny]; exact e
      exact .inl ⟨k, e5⟩
    · exact .inr ⟨k, d, e, z.sameBut hs (I.cne y d e)⟩
  · obtain ⟨w', z⟩ := I.cell y d e
    exact ⟨w', z.sameBut hs (I.cne y d e)⟩
  · obtain ⟨e, n, ne, nf, d⟩ := I.pin p hp
    exact ⟨(hs.2 p.1 ne).trans e, n, ne, nf, d⟩
/-- behind the suite of except C as x the name is gone -/
def goneE (i : Nat) (D : Ends) : Ends := { nx := fun σ H => D.nx (σ.set i none) H, rt := D.rt, bk := fun σ H => D.bk (σ.set i none) H, ct := fun σ H => D.ct (σ.set i none) H }
/-- except C as n: .. -/
theorem ph_as {x n : Str} {i : Nat} {np pos : Pos} {c : Value} {b₀ : Stmt} {suite : List Stmt} {rest : List ExceptHandler} {ts tr : TH} (hN : X.N.Nodup) (hi : X.N[i]? = some n) (hg : Gl X x) (hm : X.mg x = some c) (hs : ∀ ea oe cls, oe.cls = cls → PSs (hand X ea oe) (b₀ :: suite) (ts cls ea)) (hr : PH X rest tr)
    (hk : X.env.kindOf n = some .local := by rfl) (hkl : X.env.scope.names.lookup n = some .local := by rfl) (hdb : (x == ("__debug__" : Str)) = false := by decide) :
    PH X (.ExceptHandler (some (.Name x np)) (some n) (b₀ :: suite) pos :: rest) (fun cls ea D σ H => ∃ b, PySem.W.exmOne X.K cls c = some b ∧ if b = true then ts cls ea (goneE i D) (σ.set i (some (.ref ea))) H else tr cls ea D σ H) := by
  intro pins s0 s σ H0 D ea I c0
  obtain ⟨cls, c1⟩ := cx_fix c0
  obtain ⟨ea', oe, H', e0, I', g1, g2, g3, g4, g5, ec, b, hx, q⟩ := cx_inv I c1
  injection e0 with e0
  subst e0
  have Ih : Inv (hand X ea oe) pins σ H' s := hand_inv I' g1 g2 g3 g4 g5
  refine wpAny_handleBy_cons (codeAny_handlers_test ?_) (by intro z; cases z)
  refine ld_glob (X := hand X ea oe) Ih hg hm ?_ hdb
  have LT : PySem.W.Looks (model X.prog X.w) s.heap (typeOf (.ref ea)) cls := by
    rw [← ec]
    exact (PySem.W.Looks.ld g1).andThen .now
  refine PySem.W.exm_one I'.kIn LT hx _ _ _ s (fun _ _ z => z) ?_
  cases b with
  | true =>
    refine codeAny_handlers_suite_as (cx_again I c1 fun s2 c2 => ?_)
    obtain ⟨ea', oe2, H2, e0, I2, k1, k2, k3, k4, k5, ec2, b2, hx2, q2⟩ := cx_inv I c2
    injection e0 with e0
    subst e0
    rw [hx] at hx2
    cases hx2
    rw [if_pos rfl] at q2
    refine store_ok (X := hand X ea oe2) (v := .ref ea) (hand_inv I2 k1 k2 k3 k4 k5) hN hi (.inl hkl) rfl (fun s3 I3 => ?_) (.inr hkl)
    refine wpAny_mono (hs ea oe2 cls ec2 pins s3 _ H2 _ I3 q2) (fun f s4 h => ?_) fun _ _ z => False.elim z
    have h' := hand_sp I.ok h
    cases f with
    | next => obtain ⟨σ', H', J, z⟩ := h'; exact name_goes J hN hi hk fun s5 J5 => ⟨_, H', J5, z⟩
    | brk => obtain ⟨σ', H', J, z⟩ := h'; exact name_goes J hN hi hk fun s5 J5 => ⟨_, H', J5, z⟩
    | cont => obtain ⟨σ', H', J, z⟩ := h'; exact name_goes J hN hi hk fun s5 J5 => ⟨_, H', J5, z⟩
    | ret u => obtain ⟨v, σ', H', J, r, z⟩ := h'; exact name_goes J hN hi hk fun s5 J5 => ⟨v, _, H', J5, r, z⟩
  | false =>
    refine hr pins s0 s σ H0 D ea I (cx_imp c1 fun cls' H2 z => ?_)
    obtain ⟨rfl, b2, hx2, q2⟩ := z
    rw [hx] at hx2
    cases hx2
    rw [if_neg Bool.false_ne_true] at q2
    exact q2
/-- no clause is left: none is asked for -/
theorem ph_nil : PH X [] (fun _ _ _ _ _ => False) := fun pins s0 s σ H0 D ea I c => by
  obtain ⟨_, _, _, _, _, _, _, _, _, _, _, _, _, _, q⟩ := c
  exact False.elim q
/-! ### a call in a try -/
variable {k : Nat} {f : Addr} {fd : FuncData} {ps : List Str} {sp : Sp} {x : Str} {p pos : Pos} {e : Expr} {es : List Expr} {t : TA}
theorem call_ex {pins : List (Addr × Obj)} {σ : St} {H : Hp} {s : Shared} {Q : VK} {E : XK} (F : FnOk X.prog X.w X.K X.mg X.base (CX1 X.prog X.w) k f fd ps sp) (hr : Room k X.A) (hg : Gl X x) (hm : X.mg x = some (.ref f)) (hk : PySem.W.keepIn X.K (.ref f) = true) (hb : Binds X.K fd ps [])
    (ha : PA X.nox (e :: es) t) (I : Inv X pins σ H s) (h : t σ H fun vs H1 => sp vs H1 Q E) (hdb : (x == ("__debug__" : Str)) = false := by decide) (he : starEach (e :: es) X.env = (false, eval e X.env) :: starEach es X.env := by rfl) (hpl : (backTo pos (starEach es X.env)).any (·.1) = false := by rfl) :
    wpAny (model X.prog X.w) X.A (eval (.Call (.Name x p) (e :: es) [] pos) X.env) (EP X pins σ Q) (fun e' s' => ∃ (H1 : Hp) (s1 : Shared), Inv X pins σ H1 s1 ∧ CX1 X.prog X.w X.stack H1 s1 E e' s') s := by
  refine wpAny_Call_Name_kw (ld_glob I hg hm ?_ hdb)
  refine PySem.W.callWith_K (h₀ := X.base) I.ok.mod.kin hk (wpAny_mono (ha pos pins s σ H _ (I.wish _) h) (fun us s1 ⟨vs, H1, I1, r, q⟩ => ⟨I1.kIn, ?_⟩) fun _ _ z => False.elim z) he hpl
  have J := I1.unwish
  have hl : us.length = ps.length := by rw [← r.length]; exact F.len _ _ _ _ q
  refine wpAny_call (codeAny_mono (F.run X.A X.stack s1 H1 ⟨us, []⟩ us vs Q E hr J.env0 (by have z := hb s1 us J.kIn (by rw [List.append_nil]; exact hl); rw [List.append_nil] at z; exact z) r q) fun rr s' hq => ?_)
  cases rr with
  | error e => exact ⟨H1, s1, J, hq⟩
  | ok fl =>
    cases fl with
    | ret u => exact J.after hq
    | next => exact False.elim hq
    | brk => exact False.elim hq
    | cont => exact False.elim hq
variable {h₀ : ExceptHandler} {hs : List ExceptHandler} {th : TH}
/-- what is wanted of the exception: the clauses' reading -/
abbrev catchE (th : TH) (D : Ends) (σ : St) : XK := fun cls _ H' => ∀ ea, th cls ea D σ H'
theorem caught (hst : X.stack = X.env :: X.outer) (hfm : X.env.frame = some X.env.locals) (hh : PH X (h₀ :: hs) th) {pins : List (Addr × Obj)} {σ : St} {D : Ends} {e' : Value} {s' : Shared} (c : ∃ (H1 : Hp) (s1 : Shared), Inv X pins σ H1 s1 ∧ CX1 X.prog X.w X.stack H1 s1 (catchE th D σ) e' s') :
    wpAny (model X.prog X.w) X.A (noteFrame e' X.env) (fun _ s₂ => wpAny (model X.prog X.w) X.A (setFlight e' none) (fun _ s₃ => wpAny (model X.prog X.w) X.A (handleBy e' X.env (h₀ :: hs)) (SP X pins D) X.xe s₃) X.xe s₂) X.xe s' := by
  obtain ⟨H1, s1, I, c⟩ := c
  obtain ⟨ea, oe, H', rfl, _⟩ := cx_inv I c
  exact cx_look I hst hfm c fun s2 c2 => hh pins s1 s2 σ H1 D ea I (cx_imp c2 fun cls H2 z => z ea)
/-- try: return f(..) -/
theorem ps_tryRet {apos tpos : Pos} (F : FnOk X.prog X.w X.K X.mg X.base (CX1 X.prog X.w) k f fd ps sp) (hr : Room k X.A) (hg : Gl X x) (hm : X.mg x = some (.ref f)) (hk : PySem.W.keepIn X.K (.ref f) = true) (hb : Binds X.K fd ps []) (ha : PA X.nox (e :: es) t)
    (hst : X.stack = X.env :: X.outer) (hfm : X.env.frame = some X.env.locals) (hh : PH X (h₀ :: hs) th)
    (hdb : (x == ("__debug__" : Str)) = false := by decide) (he : starEach (e :: es) X.env = (false, eval e X.env) :: starEach es X.env := by rfl) (hpl : (backTo pos (starEach es X.env)).any (·.1) = false := by rfl) :
    PS X (.Try [.Return (some (.Call (.Name x p) (e :: es) [] pos)) apos] (h₀ :: hs) [] [] tpos) (fun D σ H => t σ H fun vs H1 => sp vs H1 D.rt (catchE th D σ)) := by
  intro pins s σ H D I h
  refine wpAny_Try_except (wpAny_mono (wpAny_execs_cons (Q := fun f s1 => match f with | .next => wpAny (model X.prog X.w) X.A (execs [] X.env) (SP X pins D) X.xe s1 | f => SP X pins D f s1) (E := fun e' s' => ∃ (H1 : Hp) (s1 : Shared), Inv X pins σ H1 s1 ∧ CX1 X.prog X.w X.stack H1 s1 (catchE th D σ) e' s') (wpAny_Return_some (wpAny_mono (call_ex (p := p) (pos := pos) F hr hg hm hk hb ha I h hdb he hpl) (fun v s1 ⟨z, H1, I1, r1, q1⟩ => ?_) fun _ _ z => z))) (fun _ _ z => z) fun e' s' c => caught hst hfm hh c)
  exact ⟨z, σ, H1, I1, r1, q1⟩
end
/-! ### raising -/
theorem exc_cls {K : PySem.W.Frag} {h : Heap} {C : Addr} {up : List Value} {mk : String} (kin : K.In h) (q : PySem.W.excIn K C up mk = true) :
    ∃ bm N nm qn bs hdct sn sub ab col dd k0 k1 k2 k3 k5 mN, h.get? C = some (excClassObj nm qn C N bs bm hdct sn sub ab col dd k0 k1 k2 k3 k5 mk) ∧ h.Ns N mN ∧ mN "__init__" = none ∧ OwnTail h up bm := by
  unfold PySem.W.excIn at q
  split at q
  next dd cd sl look =>
    split at q
    next C' bm k0 k1 k2 k3 n k5 mro slots =>
      rw [Bool.and_eq_true, Bool.and_eq_true, Bool.and_eq_true, Bool.and_eq_true, Bool.and_eq_true] at q
      obtain ⟨⟨⟨⟨⟨q1, q2⟩, q3⟩, q4⟩, q5⟩, q6⟩ := q
      have e1 : C' = C := beq_iff_eq.mp q1
      have e2 : n = mk := beq_iff_eq.mp q2
      have e6 := beq_iff_eq.mp q6
      subst e1 e2
      cases cd with
      | mk nm bs mr ns qn hd sn sub ab col del =>
        have q3' : del = false := by simpa using q3
        have mro' : mr = .ref C' :: bm := mro
        subst q3' mro'
        have sls : sl = #[k0, k1, k2, k3, some (.builtin n), k5] := by
          cases sl with
          | mk l => exact congrArg Array.mk slots
        subst sls
        exact ⟨bm, ns, nm, qn, bs, hd, sn, sub, ab, col, dd, k0, k1, k2, k3, k5, _, kin _ _ look, .of_isNs (PySem.W.isNs_of_in kin q5), PySem.W.nsMap_none_of_in kin q5 e6, PySem.W.tail_of_in kin q4⟩
    next => cases q
  next => cases q
/-- a new exception of the class at C reaches what is wanted of exceptions -/
def Throws (X : Cx) (C : Addr) (E : XK) : Prop := ∀ (pins : List (Addr × Obj)) (σ : St) (H : Hp) (s : Shared) (h' : Heap) (e : Addr) (vs : List Value), Inv X pins σ H s → Heap.MadeExcOf s.heap h' e (.ref C) vs → E (.ref C) none H → X.xe (.ref e) { s with heap := h' }
abbrev valueErrors : List Value := [.type "ValueError", .type "Exception", .type "BaseException", .type "object"]
theorem ps_raise {X : Cx} {x : Str} {C : Addr} {E : XK} {np cpos pos : Pos} {e : Expr} {es : List Expr} {t : TA} (hg : Gl X x) (hm : X.mg x = some (.ref C)) (hx : PySem.W.excIn X.K C valueErrors "ValueError.__new__" = true) (hc : X.calm = true) (ha : PA X (e :: es) t) (ht : Throws X C E)
    (hdb : (x == ("__debug__" : Str)) = false := by decide) (he : starEach (e :: es) X.env = (false, eval e X.env) :: starEach es X.env := by rfl) (hpl : (backTo cpos (starEach es X.env)).any (·.1) = false := by rfl) :
    PS X (.Raise (some (.Call (.Name x np) (e :: es) [] cpos)) none pos) (fun D σ H => t σ H fun vs H1 => vs.length ≤ sizeLine ∧ E (.ref C) none H1) := by
  intro pins s σ H D I h
  have own : OwnCls x C valueErrors "ValueError.__new__" X.mg X.base := ⟨hm, exc_cls I.ok.mod.kin hx⟩
  obtain ⟨bm, N, nm, qn, bs, hdct, sn, sub, ab, col, dd, k0, k1, k2, k3, k5, mN, hC, hNs, hni, tl⟩ := own.obj
  have hA := ha cpos pins s σ H _ I h
  refine wpAny_Raise_call_subT (C := C) (N := N) (bm := bm) (nm := nm) (q := qn) (bs := bs) (hdct := hdct) (sn := sn) (sub := sub) (ab := ab) (col := col) (dd := dd) (k0 := k0) (k1 := k1) (k2 := k2) (k3 := k3) (k5 := k5) (mN := mN) PySem.F.excBase_ValueError (tl.hasType PySem.F.excBase_ValueError.hasBase) (I.ok.hd hc) ?_ hni (ld_glob I hg hm ⟨rfl, ?_⟩ hdb)
  · rw [he]
    show (false || (backTo cpos (starEach es X.env)).any (·.1)) = false
    rw [hpl]
    rfl
  rw [he] at hA ⊢
  refine Calls.evalArgs_plain (wpAny_mono hA (fun us s2 ⟨vs, H1, I1, r, z, q⟩ => ⟨rfl, by rw [← r.length]; exact z, I1.bk _ _ hC, hNs.keeps I1.bk, tl.keeps I1.bk, fun h' e m => ?_⟩) fun _ _ y => y)
  exact ht pins σ H1 s2 h' e us I1 m q
section
variable {P : Program} {w : World} {K : PySem.W.Frag} {mg : Str → Option Value} {base : Heap}
theorem throwsX {N : List Str} {qual : Str} {scope : Scope} {f C : Addr} {cd : Value} {A : Around} {outer : List Env} {s : Shared} {H : Hp} {E : XK} : Throws (cxOf (CX1 P w) P w K mg base N qual scope f cd A outer s H E) C E :=
  fun pins σ H1 s1 h' e vs I m q => cx_made I rfl rfl rfl m q
theorem passX {N : List Str} {qual : Str} {scope : Scope} {f : Addr} {cd : Value} {A : Around} {outer : List Env} {s : Shared} {H : Hp} {E : XK} : Passes (CX1 P w) (cxOf (CX1 P w) P w K mg base N qual scope f cd A outer s H E) E :=
  fun pins σ H1 s1 e s' I c => cx_pass I rfl rfl rfl c
theorem okX {x qual : Str} {st : Stmt} {f : Addr} {fd : FuncData} {N ps : List Str} {k : Nat} {sp : Sp} (F : Fun K x qual st f fd) (S : FnScope N ps (defScope st)) (len : ∀ vs H Q E, sp vs H Q E → vs.length = ps.length)
    (hbody : ∀ (cdv : Value) (A : Around) (outer : List Env) (s : Shared) (H : Hp) (vs : List V) (Q : VK) (E : XK), Room k (A.deeper (envOfC qual (defScope st) s.heap.objs.size f cdv)) → sp vs H Q E →
      ∃ t, PSs (cxOf (CX1 P w) P w K mg base N qual (defScope st) f cdv A outer s H E) (defBody st) t ∧ t { nx := fun _ H' => Q .non H', rt := Q } (start N vs) H) : FnOk P w K mg base (CX1 P w) (k + 1) f fd ps sp := by
  obtain ⟨oc, od, kV, doc, pm, an, cdv, ct, osl, rfl, lk, hcd⟩ := F.ex
  exact fn_of lk hcd S len fun A outer s H vs Q E hr hsp => hbody cdv A outer s H vs Q E hr hsp
end
def HasX (P : Program) (w : World) (K : PySem.W.Frag) (mg : Str → Option Value) (base : Heap) (x : Str) (ps : List Str) (k : Nat) (sp : Sp) : Prop :=
  ∃ f fd, FnOk P w K mg base (CX1 P w) k f fd ps sp ∧ Binds K fd ps [] ∧ PySem.W.keepIn K (.ref f) = true ∧ mg x = some (.ref f)
end HW
end
section
set_option Elab.async false
set_option linter.all false
set_option maxRecDepth 100000
namespace HW
open PySem PySem.Spec PyProof.Rows L2
theorem bt_str : bootBuiltins "str" = some (.type "str") := by decide +kernel
theorem bt_ValueError : bootBuiltins "ValueError" = some (.type "ValueError") := by decide +kernel
/-- refused with the class at C where one or the other is no place -/
def spCheck (K : PySem.W.Frag) (C : Addr) : Sp := fun vs H Q E => ∃ (a : Addr) (B : List Int) (one other : Int), vs = [.ref a, .int one, .int other] ∧ SqL K H a (B.map V.int) ∧ (one ∈ B → other ∈ B → Q .non H) ∧ (¬ (one ∈ B ∧ other ∈ B) → E (.ref C) none H)
def wayWord (road : Bool) : Str := if road then Str.ofString "road" else Str.ofString "wall"
def WayOk (ps : List (Int × Int)) (B : List Int) (one other : Int) : Bool → List Int → Prop
  | true, row => Road ps one row other
  | false, row => Asc row ∧ one ∈ row ∧ other ∉ row ∧ Shut ps row ∧ ∀ z ∈ row, z ∈ B
def spWay (K : PySem.W.Frag) (C : Addr) : Sp := fun vs H Q E => ∃ (a b : Addr) (B : List Int) (xs : List V) (ps : List (Int × Int)) (one other : Int), vs = [.ref a, .ref b, .int one, .int other] ∧ SqL K H a (B.map V.int) ∧ SqL K H b xs ∧ Prs H xs ps ∧ ps.length ≤ 1000 ∧ B.length < 64 ∧ (∀ p ∈ ps, p.1 ∈ B ∧ p.2 ∈ B) ∧
  (¬ (one ∈ B ∧ other ∈ B) → E (.ref C) none H) ∧
  (one ∈ B → other ∈ B → ∀ (t l : Addr) (H' : Hp) (row : List Int) (road : Bool), Same H H' → H' t = some (.tup [.str (wayWord road), .ref l]) → H' l = some (.lst (row.map V.int)) → row.length < 64 → WayOk ps B one other road row → Q (.ref t) H')
theorem Road.sub {ps : List (Int × Int)} {one x : Int} {l B : List Int} (h : Road ps one l x) (h1 : one ∈ B) (hp : ∀ p ∈ ps, p.1 ∈ B ∧ p.2 ∈ B) : ∀ z ∈ l, z ∈ B := by
  induction h with
  | here => intro z hz; rw [List.mem_singleton] at hz; rw [hz]; exact h1
  | step h a n ih =>
    intro z hz
    rcases List.mem_append.mp hz with hz | hz
    · exact ih z hz
    · rw [List.mem_singleton] at hz
      rw [hz]
      exact adj_in hp a
def spHoldsRoad (K : PySem.W.Frag) : Sp := fun vs H Q _ => ∃ (r b : Addr) (row : List Int) (xs : List V) (ps : List (Int × Int)) (one other : Int), vs = [.ref r, .ref b, .int one, .int other] ∧ SqL K H r (row.map V.int) ∧ SqL K H b xs ∧ Prs H xs ps ∧ row.length < 64 ∧ ps.length ≤ 1000 ∧ Road ps one row other ∧ ∀ H', Same H H' → Q (.bl true) H'
def spHoldsShut (K : PySem.W.Frag) : Sp := fun vs H Q _ => ∃ (r pl b : Addr) (row B : List Int) (xs : List V) (ps : List (Int × Int)) (one other : Int), vs = [.ref r, .ref pl, .ref b, .int one, .int other] ∧ SqL K H r (row.map V.int) ∧ SqL K H pl (B.map V.int) ∧ SqL K H b xs ∧ Prs H xs ps ∧ row.length < 64 ∧ ps.length ≤ 1000 ∧ WayOk ps B one other false row ∧ ∀ H', Same H H' → Q (.bl true) H'
def spGood (K : PySem.W.Frag) : Sp := fun vs H Q _ => ∃ (t l pl b : Addr) (row B : List Int) (xs : List V) (ps : List (Int × Int)) (one other : Int) (road : Bool), vs = [.ref t, .ref pl, .ref b, .int one, .int other] ∧ H t = some (.tup [.str (wayWord road), .ref l]) ∧ H l = some (.lst (row.map V.int)) ∧ SqL K H pl (B.map V.int) ∧ SqL K H b xs ∧ Prs H xs ps ∧ row.length < 64 ∧ ps.length ≤ 1000 ∧ WayOk ps B one other road row ∧ ∀ H', Same H H' → Q (.bl true) H'
def spAny (K : PySem.W.Frag) : Sp := fun vs H Q _ => ∃ (a b : Addr) (B : List Int) (xs : List V) (ps : List (Int × Int)) (one other : Int), vs = [.ref a, .ref b, .int one, .int other] ∧ SqL K H a (B.map V.int) ∧ SqL K H b xs ∧ Prs H xs ps ∧ ps.length ≤ 1000 ∧ B.length < 64 ∧ (∀ p ∈ ps, p.1 ∈ B ∧ p.2 ∈ B) ∧
  ¬ (one ∈ B ∧ other ∈ B) ∧ Q (.bl true) H
theorem notIn_dec {K : PySem.W.Frag} {i : Int} {ns : List Int} : (if true = true then !inV (.int i) (ns.map V.int) else inV (.int i) (ns.map V.int)) = !decide (i ∈ ns) := congrArg not inV_int
end HW
end
section
set_option linter.all false
set_option maxRecDepth 100000
namespace HW
open PySem PySem.W PyProof.Rows
/-! ### the questions that a sort asks, answered by ranks -/
/-- the way that the answers lead, every question about items below n -/
def Run {α : Type} (n : Nat) (r : Nat → Int) : KasT α → (α → Prop) → Prop
  | .ret a, R => R a
  | .ask i j k, R => i < n ∧ j < n ∧ Run n r (k (decide (r i < r j))) R
section
variable {n : Nat} {r : Nat → Int}
theorem run_bind {α β : Type} {f : α → KasT β} {R : β → Prop} : ∀ {t : KasT α}, Run n r t (fun a => Run n r (f a) R) → Run n r (t.bind f) R
  | .ret a, h => h
  | .ask i j k, h => ⟨h.1, h.2.1, run_bind h.2.2⟩
theorem run_mono {α : Type} {R R' : α → Prop} (hr : ∀ a, R a → R' a) : ∀ {t : KasT α}, Run n r t R → Run n r t R'
  | .ret a, h => hr a h
  | .ask i j k, h => ⟨h.1, h.2.1, run_mono hr h.2.2⟩
theorem run_if {α : Type} {c : Prop} [Decidable c] {t u : KasT α} {R : α → Prop} (h1 : c → Run n r t R) (h2 : ¬ c → Run n r u R) : Run n r (if c then t else u) R := by
  by_cases h : c
  · rw [if_pos h]; exact h1 h
  · rw [if_neg h]; exact h2 h
theorem wp_run {α : Type} {cmp : Nat → Nat → (Bool → Shared → Prop) → Shared → Prop} {Q : α → Shared → Prop} {s : Shared} (h : ∀ i j C, i < n → j < n → C (decide (r i < r j)) s → cmp i j C s) : ∀ {t : KasT α}, Run n r t (fun a => Q a s) → t.kasWp cmp Q s
  | .ret a, q => q
  | .ask i j k, q => h i j _ q.1 q.2.1 (wp_run h q.2.2)
def Pm (n : Nat) (p : Array Nat) : Prop := p.Perm (List.range n).toArray
theorem Pm.size {p : Array Nat} (h : Pm n p) : p.size = n := by
  have e := h.size_eq
  simpa using e
theorem Pm.lt {p : Array Nat} (h : Pm n p) (hn : 0 < n) (i : Nat) : p.getD i 0 < n := by
  by_cases hi : i < p.size
  · have e : p.getD i 0 = p[i] := by simp [Array.getD, hi]
    rw [e]
    have m : p[i] ∈ (List.range n).toArray := h.mem_iff.mp (Array.getElem_mem hi)
    simpa using m
  · have e : p.getD i 0 = 0 := by simp [Array.getD, hi]
    rw [e]
    exact hn
def Kv (r : Nat → Int) (p : Array Nat) (i : Nat) : Int := r (p.getD i 0)
theorem getD_of {p q : Array Nat} {i j : Nat} (h : p[i]? = q[j]?) : p.getD i 0 = q.getD j 0 := by
  rw [Array.getD_eq_getD_getElem?, Array.getD_eq_getD_getElem?, h]
theorem Kv_rev {p : Array Nat} {i j : Nat} (hj : j ≤ p.size) (k : Nat) : Kv r (kas_rev p i j) k = if i ≤ k ∧ k < j then Kv r p (i + j - 1 - k) else Kv r p k := by
  have q := getElem?_mirror_all (i := i) hj k
  unfold Kv kas_rev
  split
  · rename_i c
    rw [if_pos c] at q
    rw [getD_of q]
  · rename_i c
    rw [if_neg c] at q
    rw [getD_of q]
theorem Kv_bub {p : Array Nat} {src d : Nat} (hs : src < p.size) (hd : d ≤ src) (k : Nat) : Kv r (bubble p src d) k = if k = src - d then Kv r p src else if src - d < k ∧ k ≤ src then Kv r p (k - 1) else Kv r p k := by
  have q := getElem?_bubble hs d hd k
  by_cases c : k = src - d
  · rw [if_pos c] at q ⊢
    exact congrArg r (getD_of q)
  · rw [if_neg c] at q ⊢
    by_cases c2 : src - d < k ∧ k ≤ src
    · rw [if_pos c2] at q ⊢
      exact congrArg r (getD_of q)
    · rw [if_neg c2] at q ⊢
      exact congrArg r (getD_of q)
theorem Pm.rev {p : Array Nat} (h : Pm n p) (i j : Nat) : Pm n (kas_rev p i j) := (mirror_perm p i j _).trans h
theorem Pm.bub {p : Array Nat} (h : Pm n p) (i j : Nat) : Pm n (bubble p i j) := (bubble_perm p i j).trans h
/-- not falling, not rising, up to m -/
def Ris (r : Nat → Int) (p : Array Nat) (m : Nat) : Prop := ∀ i, 1 ≤ i → i < m → Kv r p (i - 1) ≤ Kv r p i
def Fal (r : Nat → Int) (p : Array Nat) (m : Nat) : Prop := ∀ i, 1 ≤ i → i < m → Kv r p i ≤ Kv r p (i - 1)
theorem Ris.le {p : Array Nat} {m : Nat} (h : Ris r p m) : ∀ (d i : Nat), i + d < m → Kv r p i ≤ Kv r p (i + d)
  | 0, i, _ => Int.le_refl _
  | d + 1, i, hd => by
    have h1 := Ris.le h d i (by omega)
    have h2 := h (i + d + 1) (by omega) (by omega)
    have e : i + d + 1 - 1 = i + d := by omega
    rw [e] at h2
    exact Int.le_trans h1 h2
theorem Ris.le' {p : Array Nat} {m i j : Nat} (h : Ris r p m) (hij : i ≤ j) (hj : j < m) : Kv r p i ≤ Kv r p j := by
  have e : j = i + (j - i) := by omega
  rw [e]
  exact h.le _ _ (by omega)
theorem run_asc {p : Array Nat} (hp : Pm n p) (hn : 0 < n) : ∀ (f a : Nat), 1 ≤ a → a + f ≤ n → Run n r (kas_asc p f a) fun m => a ≤ m ∧ m ≤ a + f ∧ (∀ i, a ≤ i → i < m → Kv r p (i - 1) ≤ Kv r p i) ∧ (m < a + f → Kv r p m < Kv r p (m - 1))
  | 0, a, h1, h2 => ⟨Nat.le_refl _, Nat.le_refl _, fun i c1 c2 => by omega, fun c => by omega⟩
  | f + 1, a, h1, h2 => by
    refine ⟨hp.lt hn _, hp.lt hn _, run_if (fun c => ?_) (fun c => ?_)⟩
    · have c' : Kv r p a < Kv r p (a - 1) := of_decide_eq_true c
      exact ⟨Nat.le_refl _, by omega, fun i c1 c2 => by omega, fun _ => c'⟩
    · have c' : ¬ Kv r p a < Kv r p (a - 1) := fun z => c (decide_eq_true z)
      refine run_mono (fun m hm => ?_) (run_asc hp hn f (a + 1) (by omega) (by omega))
      obtain ⟨m1, m2, m3, m4⟩ := hm
      refine ⟨by omega, by omega, fun i c1 c2 => ?_, fun z => m4 (by omega)⟩
      by_cases e : i = a
      · subst e
        omega
      · exact m3 i (by omega) c2
/-- what a look for a falling run leaves -/
structure Dn (n : Nat) (r : Nat → Int) (p p' : Array Nat) (m q : Nat) : Prop where
  pm : Pm n p'
  same : ∀ i, Kv r p' i = Kv r p i
  q1 : q + 1 ≤ m
  eq : ∀ i, m - (q + 1) ≤ i → i < m → Kv r p' i = Kv r p' (m - 1)
  fal : Fal r p' m
theorem rev_same {p : Array Nat} {i j : Nat} (hj : j ≤ p.size) (h : ∀ k, i ≤ k → k < j → Kv r p k = Kv r p (j - 1)) (k : Nat) : Kv r (kas_rev p i j) k = Kv r p k := by
  rw [Kv_rev hj]
  split
  · rename_i c
    rw [h (i + j - 1 - k) (by omega) (by omega), h k c.1 c.2]
  · rfl
theorem run_desc (p0 : Array Nat) (hn : 0 < n) : ∀ (f : Nat) (p : Array Nat) (m q : Nat), m + f ≤ n → Dn n r p0 p m q → Run n r (kas_desc f p m q) fun z => m ≤ z.2.1 ∧ z.2.1 ≤ m + f ∧ Dn n r p0 z.1 z.2.1 z.2.2
  | 0, p, m, q, hm, D => ⟨Nat.le_refl _, Nat.le_refl _, D⟩
  | f + 1, p, m, q, hm, D => by
    have hsz := D.pm.size
    have q1 := D.q1
    refine ⟨D.pm.lt hn _, D.pm.lt hn _, run_if (fun c => ?_) (fun c => ?_)⟩
    · have c' : Kv r p m < Kv r p (m - 1) := of_decide_eq_true c
      have fal' : Fal r p (m + 1) := fun i c1 c2 => by
        by_cases e : i = m
        · subst e
          omega
        · exact D.fal i c1 (by omega)
      refine run_if (fun cq => ?_) (fun cq => ?_)
      · have sm := rev_same (r := r) (p := p) (i := m - (q + 1)) (j := m) (by omega) D.eq
        refine run_mono (fun z hz => ⟨by omega, by omega, hz.2.2⟩) (run_desc p0 hn f (kas_rev p (m - (q + 1)) m) (m + 1) 0 (by omega) ⟨D.pm.rev _ _, fun i => (sm i).trans (D.same i), by omega, fun i c1 c2 => ?_, fun i c1 c2 => ?_⟩)
        · have e : i = m := by omega
          subst e
          rfl
        · rw [sm, sm]
          exact fal' i c1 c2
      · refine run_mono (fun z hz => ⟨by omega, by omega, hz.2.2⟩) (run_desc p0 hn f p (m + 1) 0 (by omega) ⟨D.pm, D.same, by omega, fun i c1 c2 => ?_, fal'⟩)
        have e : i = m := by omega
        subst e
        rfl
    · have c' : ¬ Kv r p m < Kv r p (m - 1) := fun z => c (decide_eq_true z)
      refine ⟨D.pm.lt hn _, D.pm.lt hn _, run_if (fun d => ?_) (fun d => ?_)⟩
      · exact ⟨Nat.le_refl m, Nat.le_add_right m (f + 1), D⟩
      · have d' : ¬ Kv r p (m - 1) < Kv r p m := fun z => d (decide_eq_true z)
        have eqm : Kv r p m = Kv r p (m - 1) := by omega
        refine run_mono (fun z hz => ⟨by omega, by omega, hz.2.2⟩) (run_desc p0 hn f p (m + 1) (q + 1) (by omega) ⟨D.pm, D.same, by omega, fun i c1 c2 => ?_, fun i c1 c2 => ?_⟩)
        · have e1 : m + 1 - 1 = m := by omega
          rw [e1]
          by_cases e : i = m
          · subst e
            rfl
          · rw [D.eq i (by omega) (by omega)]
            exact eqm.symm
        · by_cases e : i = m
          · subst e
            omega
          · exact D.fal i c1 (by omega)
theorem run_tail3 {p : Array Nat} {m : Nat} (hp : Pm n p) (h1 : 1 ≤ m) (hm : m ≤ n) (fal : Fal r p m) : Run n r (kas_tail3 m n p) fun z => Pm n z.2 ∧ 1 ≤ z.1 ∧ z.1 ≤ n ∧ Ris r z.2 z.1 := by
  have hsz := hp.size
  unfold kas_tail3
  refine run_bind (run_mono (fun k hk => ?_) (run_asc (hp.rev 0 m) (by omega) (n - m) m h1 (by omega)))
  obtain ⟨k1, k2, k3, _⟩ := hk
  refine ⟨hp.rev 0 m, by omega, by omega, fun i c1 c2 => ?_⟩
  by_cases ci : i < m
  · show Kv r (kas_rev p 0 m) (i - 1) ≤ Kv r (kas_rev p 0 m) i
    rw [Kv_rev (by omega), Kv_rev (by omega), if_pos ⟨by omega, by omega⟩, if_pos ⟨by omega, ci⟩]
    have z := fal (0 + m - 1 - (i - 1)) (by omega) (by omega)
    have e : 0 + m - 1 - (i - 1) - 1 = 0 + m - 1 - i := by omega
    rw [e] at z
    exact z
  · exact k3 i (by omega) c2
theorem run_descPart {p : Array Nat} {m : Nat} (hp : Pm n p) (hm : m + 1 ≤ n) (fal : Fal r p (m + 1)) : Run n r (kas_descPart m n p) fun z => Pm n z.2 ∧ 1 ≤ z.1 ∧ z.1 ≤ n ∧ Ris r z.2 z.1 := by
  unfold kas_descPart
  refine run_bind (run_mono (fun z hz => ?_) (run_desc p (by omega) (n - (m + 1)) p (m + 1) 0 (by omega) ⟨hp, fun _ => rfl, by omega, fun i c1 c2 => ?_, fal⟩))
  · obtain ⟨z1, z2, D⟩ := hz
    have hsz := D.pm.size
    have q1 := D.q1
    refine run_if (fun c => ?_) (fun c => ?_)
    · have sm := rev_same (r := r) (p := z.1) (i := z.2.1 - (z.2.2 + 1)) (j := z.2.1) (by omega) D.eq
      refine run_tail3 (D.pm.rev _ _) (by omega) (by omega) fun i c1 c2 => ?_
      rw [sm, sm]
      exact D.fal i c1 c2
    · exact run_tail3 D.pm (by omega) (by omega) D.fal
  · have e : i = m := by omega
    subst e
    rfl
theorem run_count {p : Array Nat} (hp : Pm n p) (hn : 1 ≤ n) : Run n r (kas_count n p) fun z => Pm n z.2 ∧ 1 ≤ z.1 ∧ z.1 ≤ n ∧ Ris r z.2 z.1 := by
  have hsz := hp.size
  unfold kas_count
  refine run_bind (run_mono (fun m hm => ?_) (run_asc hp (by omega) (n - 1) 1 (Nat.le_refl _) (by omega)))
  obtain ⟨m1, m2, m3, m4⟩ := hm
  have ris : Ris r p m := fun i c1 c2 => m3 i c1 c2
  refine run_if (fun c => ⟨hp, m1, by omega, ris⟩) (fun c => ?_)
  have hlt : m < n := by
    have : m ≠ n := fun e => c (by rw [e]; exact beq_self_eq_true _)
    omega
  have stop := m4 (by omega)
  refine run_if (fun c2 => ?_) (fun c2 => ?_)
  · refine ⟨hp.lt (by omega) _, hp.lt (by omega) _, run_if (fun d => ⟨hp, m1, by omega, ris⟩) (fun d => ?_)⟩
    have d' : ¬ Kv r p 0 < Kv r p (m - 1) := fun z => d (decide_eq_true z)
    have all : ∀ k, 0 ≤ k → k < m → Kv r p k = Kv r p (m - 1) := fun k _ hk => by
      have a1 := ris.le' (Nat.zero_le k) hk
      have a2 := ris.le' (show k ≤ m - 1 by omega) (by omega)
      omega
    have sm := rev_same (r := r) (p := p) (i := 0) (j := m) (by omega) all
    refine run_descPart (hp.rev 0 m) (by omega) fun i c1 c3 => ?_
    rw [sm, sm]
    by_cases e : i = m
    · subst e
      omega
    · rw [all i (by omega) (by omega), all (i - 1) (by omega) (by omega)]
      exact Int.le_refl _
  · refine run_descPart hp (by omega) fun i c1 c3 => ?_
    have e : m = 1 := by omega
    have e2 : i = m := by omega
    rw [e2]
    omega
theorem run_place {p : Array Nat} {k : Nat} (hp : Pm n p) (hk : k < n) (ris : Ris r p k) : ∀ (f l u : Nat), l ≤ u → u ≤ k → u - l ≤ f → (∀ i, i < l → Kv r p i ≤ Kv r p k) → (∀ i, u ≤ i → i < k → Kv r p k < Kv r p i) →
    Run n r (kas_place p k f l u) fun l' => l' ≤ k ∧ (∀ i, i < l' → Kv r p i ≤ Kv r p k) ∧ ∀ i, l' ≤ i → i < k → Kv r p k < Kv r p i
  | 0, l, u, h1, h2, h3, lo, hi => by
    have e : l = u := by omega
    subst e
    exact ⟨h2, lo, hi⟩
  | f + 1, l, u, h1, h2, h3, lo, hi => by
    refine run_if (fun c => ?_) (fun c => ?_)
    · have e : l = u := by omega
      subst e
      exact ⟨h2, lo, hi⟩
    · refine ⟨hp.lt (by omega) _, hp.lt (by omega) _, run_if (fun d => ?_) (fun d => ?_)⟩
      · have d' : Kv r p k < Kv r p ((l + u) / 2) := of_decide_eq_true d
        refine run_place hp hk ris f l ((l + u) / 2) (by omega) (by omega) (by omega) lo fun i c1 c2 => ?_
        exact Int.lt_of_lt_of_le d' (ris.le' c1 c2)
      · have d' : ¬ Kv r p k < Kv r p ((l + u) / 2) := fun z => d (decide_eq_true z)
        refine run_place hp hk ris f ((l + u) / 2 + 1) u (by omega) h2 (by omega) (fun i c1 => ?_) hi
        have z := ris.le' (show i ≤ (l + u) / 2 by omega) (by omega)
        omega
theorem run_bin (hn : 0 < n) : ∀ (f : Nat) (p : Array Nat) (k : Nat), Pm n p → 1 ≤ k → k + f = n → Ris r p k → Run n r (kas_bin f p k) fun z => Pm n z ∧ Ris r z n
  | 0, p, k, hp, h1, h2, ris => by
    have e : k = n := by omega
    subst e
    exact ⟨hp, ris⟩
  | f + 1, p, k, hp, h1, h2, ris => by
    have hsz := hp.size
    refine run_bind (run_mono (fun l hl => ?_) (run_place hp (by omega) ris k 0 k (Nat.zero_le _) (Nat.le_refl _) (by omega) (fun i c => by omega) fun i c1 c2 => by omega))
    obtain ⟨l1, l2, l3⟩ := hl
    refine run_bin hn f _ (k + 1) (hp.bub _ _) (by omega) (by omega) fun i c1 c2 => ?_
    have e0 : k - (k - l) = l := by omega
    rw [Kv_bub (by omega) (by omega), Kv_bub (by omega) (by omega), e0]
    by_cases a1 : i = l
    · rw [if_pos a1, if_neg (by omega), if_neg (by omega)]
      exact l2 (i - 1) (by omega)
    · rw [if_neg a1]
      by_cases a2 : i - 1 = l
      · rw [if_pos a2, if_pos ⟨by omega, by omega⟩, a2]
        exact Int.le_of_lt (l3 l (Nat.le_refl _) (by omega))
      · rw [if_neg a2]
        by_cases a3 : l < i
        · rw [if_pos ⟨by omega, by omega⟩, if_pos ⟨a3, by omega⟩]
          exact ris (i - 1) (by omega) (by omega)
        · rw [if_neg (by omega), if_neg (by omega)]
          exact ris i c1 (by omega)
theorem run_sort (hn : 1 ≤ n) : Run n r (kas_sort n) fun p => Pm n p ∧ Ris r p n := by
  unfold kas_sort
  have h0 : Pm n (List.toArray (List.range n)) := Array.Perm.refl _
  refine run_bind (run_mono (fun z hz => ?_) (run_count h0 hn))
  obtain ⟨z1, z2, z3, z4⟩ := hz
  refine run_if (fun c => ?_) (fun c => ?_)
  · have e : max z.1 1 = z.1 := by omega
    rw [e]
    exact run_bin (by omega) _ _ _ z1 z2 (by omega) z4
  · have e : z.1 = n := by omega
    rw [e] at z4
    exact ⟨z1, z4⟩
end
end HW
end
section
set_option Elab.async false
set_option linter.all false
set_option maxRecDepth 100000
namespace HW
open PySem PySem.Spec PyProof.Rows L2
/-! ### pairs of ints in their order -/
def plt (p q : Int × Int) : Bool := if p.1 = q.1 then decide (p.2 < q.2) else decide (p.1 < q.1)
def ple (p q : Int × Int) : Prop := plt q p = false
theorem plt_total {p q : Int × Int} (h1 : plt p q = false) (h2 : plt q p = false) : p = q := by
  have e : p.1 = q.1 ∧ p.2 = q.2 := by
    unfold plt at *
    split at h1 <;> split at h2 <;> simp at * <;> omega
  exact Prod.ext e.1 e.2
/-- a rank that keeps the order, for second parts of at most m -/
def enc (m : Nat) (p : Int × Int) : Int := p.1 * (2 * (m : Int) + 1) + p.2
theorem enc_step {m : Nat} {p q : Int × Int} (hp : p.2.natAbs ≤ m) (hq : q.2.natAbs ≤ m) (h : p.1 < q.1) : enc m p < enc m q := by
  unfold enc
  have h1 : (p.1 + 1) * (2 * (m : Int) + 1) ≤ q.1 * (2 * (m : Int) + 1) := Int.mul_le_mul_of_nonneg_right (by omega) (by omega)
  rw [Int.add_mul, Int.one_mul] at h1
  omega
theorem enc_lt {m : Nat} {p q : Int × Int} (hp : p.2.natAbs ≤ m) (hq : q.2.natAbs ≤ m) : decide (enc m p < enc m q) = plt p q := by
  unfold plt
  split
  · rename_i e
    refine decide_eq_decide.mpr ?_
    unfold enc
    rw [e]
    omega
  · rename_i e
    refine decide_eq_decide.mpr ⟨fun z => ?_, fun z => enc_step hp hq z⟩
    rcases Int.lt_trichotomy p.1 q.1 with c | c | c
    · exact c
    · exact absurd c e
    · have := enc_step hq hp c
      omega
theorem le_sum : ∀ {l : List Nat} {x : Nat}, x ∈ l → x ≤ l.sum
  | y :: l, x, h => by
    rw [List.sum_cons]
    rcases List.mem_cons.mp h with e | h
    · omega
    · have := le_sum h
      omega
/-! ### a list of pairs is sorted -/
def PairIn (h : Heap) (v : Value) (p : Int × Int) : Prop := ∃ (t : Addr) (o : Obj) (k : Nat) (t1 t2 : Tok), v = .ref t ∧ h.get? t = some o ∧ o.cls = .type "tuple" ∧ o.data = .seq #[.int p.1 t1, .int p.2 t2] k
abbrev PairsIn (h : Heap) : List Value → List (Int × Int) → Prop := Paired (PairIn h)
theorem pairsIn_get {h : Heap} : ∀ {us : List Value} {ps : List (Int × Int)} (i : Nat), PairsIn h us ps → i < us.length → PairIn h (us.getD i .none) (ps.getD i (0, 0))
  | _ :: _, _ :: _, 0, .cons r _, _ => r
  | _ :: us, _ :: ps, i + 1, .cons _ t, hi => pairsIn_get (us := us) (ps := ps) i t (by simpa using hi)
theorem pairsIn_keep {h h' : Heap} {us : List Value} {ps : List (Int × Int)} (x : PairsIn h us ps) (k : ∀ (t : Addr) (o : Obj), h.get? t = some o → o.cls = .type "tuple" → h'.get? t = some o) : PairsIn h' us ps :=
  Paired.mapP x fun v p ⟨t, o, n, t1, t2, e1, e2, e3, e4⟩ => ⟨t, o, n, t1, t2, e1, k t o e2 e3, e3, e4⟩
theorem pairsIn_tups {h : Heap} {us : List Value} {ps : List (Int × Int)} (x : PairsIn h us ps) : ∃ fs : List Value, PySem.W.KatTups h us fs ∧ fs.length = us.length ∧ ∀ v ∈ fs, ∃ i t, v = Value.int i t := by
  induction x with
  | nil => exact ⟨[], trivial, rfl, fun v hv => by simp at hv⟩
  | @cons v p vs qs hd tl ih =>
    obtain ⟨t, o, n, t1, t2, e1, e2, e3, e4⟩ := hd
    obtain ⟨fs, f1, f2, f3⟩ := ih
    subst e1
    refine ⟨.int p.1 t1 :: fs, PySem.W.KatTups.cons e2 e3 e4 rfl f1, by simp [f2], fun v hv => ?_⟩
    rcases List.mem_cons.mp hv with e | hv
    · exact ⟨_, _, e⟩
    · exact f3 v hv
section
variable {prog : Program} {w : World} {A : Around} {E : Value → Shared → Prop} {s : Shared}
theorem pair_less {v u : Value} {p q : Int × Int} {C : Bool → Shared → Prop} (hv : PairIn s.heap v p) (hu : PairIn s.heap u q) (h : C (plt p q) s) : wpAny (model prog w) A (keyLt' (tuples' true) v u) C E s := by
  obtain ⟨t, o, n, t1, t2, rfl, e2, e3, e4⟩ := hv
  obtain ⟨t', o', n', t1', t2', rfl, e2', e3', e4'⟩ := hu
  refine PySem.W.kat_lt e2 e4 e2' e4' ?_
  show PySem.W.KatLex prog w A true (decide (2 < 2)) C [(.int p.1 t1, .int q.1 t1'), (.int p.2 t2, .int q.2 t2')] 0 s
  refine PySem.W.kat_cons (wpAny_eqBool_int (PySem.W.kat_go (fun c => ?_) (fun c => ?_)))
  · have c1 : p.1 = q.1 := beq_iff_eq.mp c
    have e : plt p q = decide (p.2 < q.2) := by unfold plt; rw [if_pos c1]
    rw [e] at h
    refine PySem.W.kat_yes (PySem.W.kat_cons (wpAny_eqBool_int (PySem.W.kat_go (fun d => PySem.W.kat_yes (PySem.W.kat_nil ?_)) (fun d => PySem.W.kat_no ?_))))
    · have d1 : p.2 = q.2 := beq_iff_eq.mp d
      rw [d1, decide_eq_false (Int.lt_irrefl _)] at h
      exact h
    · exact PySem.W.kat_one _ _ (lt_int h)
  · have c1 : ¬ p.1 = q.1 := fun z => by rw [z, beq_self_eq_true] at c; cases c
    have e : plt p q = decide (p.1 < q.1) := by unfold plt; rw [if_neg c1]
    rw [e] at h
    exact PySem.W.kat_no (oneLt_int h)
/-- the pairs in the order of p -/
theorem list_sort_pairs {a : Addr} {us : List Value} {n : Nat} {ps : List (Int × Int)} {P : PySem.Fin → Shared → Prop} (at_ : s.heap.get? a = some (seqObj "list" us.toArray n)) (pr : PairsIn s.heap us ps) (few : us.length < 64)
    (fin : ∀ idx : List Nat, idx.Perm (List.range us.length) → (idx.map fun i => ps.getD i (0, 0)).Pairwise ple → P (.done (.ret .none)) { s with heap := sortedHeap s.heap a us (idx.map fun i => us.getD i .none).toArray }) :
    wpAny (model prog w) A (Builtin.«list.sort» ⟨[.ref a], []⟩) P E s := by
  have len := Paired.length pr
  have lt : a < s.heap.objs.size := Heap.lt_size at_
  rw [list_sort_plain]
  refine wpAny_bind (listItems_at at_ rfl (wpAny_bind (listUpdate_at at_ rfl ?_)))
  obtain ⟨ep, at1⟩ : ∃ ep, (s.heap.update a (Obj.mapSeq fun _ => #[])).get? a = some (seqObj "list" #[] ep) := ⟨_, get?_update_seq at_ fun _ => #[]⟩
  refine wpAny_bind (seqEpoch_at at1 rfl (wpAny_bind (wpAny_newTuple (wpAny_bind (wpAny_newList (wpAny_holding ?_))))))
  have at2 : (((s.heap.update a (Obj.mapSeq fun _ => #[])).push (seqObj "tuple" us.toArray 0)).push (seqObj "list" #[] 0)).get? a = some (seqObj "list" #[] ep) :=
    Heap.get?_push_of_some _ (Heap.get?_push_of_some _ at1)
  have pr2 : PairsIn (((s.heap.update a (Obj.mapSeq fun _ => #[])).push (seqObj "tuple" us.toArray 0)).push (seqObj "list" #[] 0)) us ps := pairsIn_keep pr fun t o e c => by
    refine Heap.get?_push_of_some _ (Heap.get?_push_of_some _ ((Heap.get?_update_other _ _ fun z => ?_).trans e))
    rw [← z, at_] at e
    cases e
    have c' : Value.type "list" = Value.type "tuple" := c
    exact absurd c' (by decide)
  have fin' : ∀ idx : List Nat, idx.Perm (List.range us.length) → (idx.map fun i => ps.getD i (0, 0)).Pairwise ple → P (.done (.ret .none)) { s with heap := (((s.heap.update a (Obj.mapSeq fun _ => #[])).push (seqObj "tuple" us.toArray 0)).push (seqObj "list" #[] 0)).update a (Obj.mapSeq fun _ => (idx.map fun i => us.getD i .none).toArray) } := fin
  clear fin
  show wpAny (model prog w) A _ P E { s with heap := ((s.heap.update a (Obj.mapSeq fun _ => #[])).push (seqObj "tuple" us.toArray 0)).push (seqObj "list" #[] 0) }
  generalize ((s.heap.update a (Obj.mapSeq fun _ => #[])).push (seqObj "tuple" us.toArray 0)).push (seqObj "list" #[] 0) = h2 at at2 pr2 fin' ⊢
  dsimp only
  by_cases two : us.toArray.size < 2
  · rw [if_pos two, if_pos two]
    refine wpAny_bind (wpAny_pure ?_)
    rw [StateT.run_pure]
    refine wpAny_bind (wpAny_pure ?_)
    dsimp only
    have e0 : (arrOf (SortSt.mk' general' (us.toArray.zip us.toArray) #[] 7 none)).map (·.2) = ((List.range us.length).map fun i => us.getD i .none).toArray := by
      have z := PySem.W.kat_snds (ks := us) (vs := us) (p := (List.range us.length).toArray) (st := SortSt.mk' general' (us.toArray.zip us.toArray) #[] 7 none) rfl (by
        have e := PySem.W.kas_range (us.toArray.zip us.toArray)
        rw [show (us.toArray.zip us.toArray).size = us.length by simp] at e
        exact e.symm)
      simpa using z
    rw [e0]
    refine wpAny_bind (seqEpoch_at at2 rfl (wpAny_bind (listUpdate_at at2 rfl ?_ (hsz2 := ?_))))
    · simp only [bne_self_eq_false, Bool.false_eq_true, if_false]
      refine wpAny_pure (fin' (List.range us.length) (List.Perm.refl _) ?_)
      have one : us.length = 0 ∨ us.length = 1 := by rw [List.size_toArray] at two; omega
      rcases one with e | e
      · rw [e]
        exact List.Pairwise.nil
      · rw [e]
        exact List.pairwise_singleton _ _
    · rw [List.size_toArray, List.length_map, List.length_range, sizeLine_eq]
      omega
  · rw [if_neg two, if_neg two]
    have two' : 2 ≤ us.length := by rw [List.size_toArray] at two; omega
    obtain ⟨fs, f1, f2, f3⟩ := pairsIn_tups pr2
    refine wpAny_bind (PySem.W.kat_kind (T := .type "int") f1 (by omega) (fun v hv => ?_) rfl ?_)
    · obtain ⟨i, t, rfl⟩ := f3 v hv
      exact PySem.W.Looks.of_pure rfl
    have kd : tuples' (Value.type "int" != Value.type "tuple") = tuples' true := congrArg tuples' (by decide)
    rw [kd]
    obtain ⟨M, big⟩ : ∃ M, ∀ i, i < us.length → (ps.getD i (0, 0)).2.natAbs ≤ M := ⟨(ps.map fun p => p.2.natAbs).sum, fun i hi => by
      have hi' : i < ps.length := by omega
      refine le_sum (List.mem_map.mpr ⟨ps.getD i (0, 0), ?_, rfl⟩)
      rw [List.getD_eq_getElem?_getD, List.getElem?_eq_getElem hi']
      exact List.getElem_mem hi'⟩
    have ask : (PySem.W.kas_sort us.length).kasWp (PySem.W.kas_ask prog w A (tuples' true) us) (fun p s' => (Pm us.length p ∧ Ris (fun i => enc M (ps.getD i (0, 0))) p us.length) ∧ s' = { s with heap := h2 }) { s with heap := h2 } := by
      refine wp_run (n := us.length) (r := fun i => enc M (ps.getD i (0, 0))) (fun i j C hi hj hC => ?_) (run_mono (fun p hp => ⟨hp, rfl⟩) (run_sort (by omega)))
      rw [enc_lt (big i hi) (big j hj)] at hC
      exact pair_less (s := { s with heap := h2 }) (pairsIn_get i pr2 hi) (pairsIn_get j pr2 hj) hC
    refine wpAny_bind (wpAny_mono (PySem.W.kat_run (Q := fun st' s' => ∃ p : Array Nat, arrOf st' = p.map (PySem.W.kas_item (us.toArray.zip us.toArray)) ∧ failedOf st' = none ∧ (Pm us.length p ∧ Ris (fun i => enc M (ps.getD i (0, 0))) p us.length) ∧ s' = { s with heap := h2 })
      rfl two' few (fun p st' s' _ b1 b2 b3 => ⟨p, b1, b2, b3⟩) ask) ?_ fun _ _ z => z)
    rintro ⟨⟨⟩, st'⟩ s' ⟨p, b1, b2, ⟨pm, ris⟩, rfl⟩
    dsimp only
    have psz := pm.size
    have e0 : (arrOf st').map (·.2) = (p.toList.map fun i => us.getD i .none).toArray := PySem.W.kat_snds rfl b1
    rw [e0, b2]
    refine wpAny_bind (seqEpoch_at at2 rfl (wpAny_bind (listUpdate_at at2 rfl ?_ (hsz2 := ?_))))
    · simp only [bne_self_eq_false, Bool.false_eq_true, if_false]
      refine wpAny_pure (fin' p.toList (by simpa using pm.toList) ?_)
      rw [List.pairwise_iff_getElem]
      intro i j hi hj hij
      rw [List.length_map, Array.length_toList, psz] at hi hj
      have q := ris.le' (Nat.le_of_lt hij) hj
      unfold Kv at q
      rw [List.getElem_map, List.getElem_map, Array.getElem_toList, Array.getElem_toList]
      have g : ∀ k (hk : k < p.size), p.getD k 0 = p[k] := fun k hk => by simp [Array.getD, hk]
      rw [g i (by omega), g j (by omega)] at q
      have l1 : p[i] < us.length := by rw [← g i (by omega)]; exact pm.lt (by omega) i
      have l2 : p[j] < us.length := by rw [← g j (by omega)]; exact pm.lt (by omega) j
      have q' : enc M (ps.getD p[i] (0, 0)) ≤ enc M (ps.getD p[j] (0, 0)) := q
      show plt _ _ = false
      rw [← enc_lt (big _ l2) (big _ l1)]
      exact decide_eq_false (by omega)
    · rw [List.size_toArray, List.length_map, Array.length_toList, psz, sizeLine_eq]
      omega
/-- sorted(list of pairs) -/
theorem sorted_pairs {l : Addr} {us : List Value} {ps : List (Int × Int)} {Q : Value → Shared → Prop} (isl : s.heap.IsList l us.toArray) (pr : PairsIn s.heap us ps) (few : us.length < 64)
    (fin : ∀ idx : List Nat, idx.Perm (List.range us.length) → (idx.map fun i => ps.getD i (0, 0)).Pairwise ple → Q (.ref (s.heap.objs.size + 1)) { s with heap := sortedAll s.heap us (idx.map fun i => us.getD i .none).toArray }) :
    wpAny (model prog w) A (call (.builtin "sorted") [.ref l]) Q E s := by
  refine Calls.call_function_entry kind_sorted plain_sorted entry_sorted (args_sorted1 _) ?_
  unfold Builtin.«sorted»
  refine wpAny_bind (m := checkCount "sorted" 1 1 _) (wpAny_pure (wpAny_bind (collect_list isl (wpAny_bind (wpAny_newList ?_)))))
  have size1 : ((s.heap.push (seqObj "list" #[] 0)).update s.heap.objs.size (Obj.mapSeq (· ++ us.toArray))).objs.size = s.heap.objs.size + 1 := by rw [Heap.size_update, size_push']
  have made : (((s.heap.push (seqObj "list" #[] 0)).update s.heap.objs.size (Obj.mapSeq (· ++ us.toArray))).push (seqObj "list" us.toArray 0)).get? (s.heap.objs.size + 1) = some (seqObj "list" us.toArray 0) := by
    rw [← size1]
    exact Heap.get?_push_size _ rfl
  have pr2 : PairsIn (((s.heap.push (seqObj "list" #[] 0)).update s.heap.objs.size (Obj.mapSeq (· ++ us.toArray))).push (seqObj "list" us.toArray 0)) us ps := pairsIn_keep pr fun t o e _ =>
    Heap.get?_push_of_some _ ((Heap.get?_update_other _ _ (Nat.ne_of_gt (Heap.lt_size e))).trans (Heap.get?_push_of_some _ e))
  show wpAny _ _ _ _ _ { s with heap := ((s.heap.push (seqObj "list" #[] 0)).update s.heap.objs.size (Obj.mapSeq (· ++ us.toArray))).push (seqObj "list" us.toArray 0) }
  rw [size1]
  exact wpAny_bind (wpAny_holding (wpAny_call_entry slot_list_sort ⟨_, made, rfl⟩ entry_list_sort (list_sort_pairs (s := { s with heap := ((s.heap.push (seqObj "list" #[] 0)).update s.heap.objs.size (Obj.mapSeq (· ++ us.toArray))).push (seqObj "list" us.toArray 0) }) made pr2 few fun idx b1 b2 => ⟨_, rfl, wpAny_pure ⟨_, rfl, fin idx b1 b2⟩⟩) (args_list_sort _)))
end
theorem pairs_in {X : Cx} {pins : List (Addr × Obj)} {σ : St} {H : Hp} {s : Shared} (I : Inv X pins σ H s) : ∀ {xs : List V} {ps : List (Int × Int)} {us : List Value}, Prs H xs ps → Vals xs us → PairsIn s.heap us ps
  | _, _, _, .nil, .nil => .nil
  | _, _, _, .cons hd tl, .cons rv rt => by
    obtain ⟨a, rfl, ha⟩ := hd
    cases rv
    obtain ⟨_, its, r, o, h1, h2, n, h3⟩ := (show ObjOk X.prog X.w H s.heap a (.tup [.int _, .int _]) from I.hok a _ ha)
    refine .cons ?_ (pairs_in I tl rt)
    obtain ⟨u1, u2, rfl, ⟨t1, e1⟩, ⟨t2, e2⟩⟩ := r.two
    subst e1 e2
    exact ⟨a, o, n, t1, t2, rfl, h1, h2, h3⟩
theorem perm_map_range {α : Type} (l : List α) (d : α) {idx : List Nat} (h : idx.Perm (List.range l.length)) : (idx.map fun i => l.getD i d).Perm l := by
  refine (h.map _).trans (List.Perm.of_eq ?_)
  refine List.ext_getElem? fun i => ?_
  rw [List.getElem?_map]
  by_cases hi : i < l.length
  · rw [List.getElem?_range hi, List.getElem?_eq_getElem hi]
    show some (l.getD i d) = _
    rw [List.getD_eq_getElem?_getD, List.getElem?_eq_getElem hi]
    rfl
  · rw [List.getElem?_eq_none (by simpa using hi), List.getElem?_eq_none (by simpa using hi)]
    rfl
theorem vals_pick : ∀ {xs : List V} {us : List Value} (idx : List Nat), Vals xs us → (∀ i ∈ idx, i < xs.length) → Vals (idx.map fun i => xs.getD i .non) (idx.map fun i => us.getD i .none)
  | xs, us, [], _, _ => .nil
  | xs, us, i :: r, h, hi => by
    have i1 : i < xs.length := hi i (by simp)
    obtain ⟨u, hu, rv⟩ := h.get (List.getElem?_eq_getElem i1)
    refine .cons ?_ (vals_pick r h fun j hj => hi j (by simp [hj]))
    dsimp only
    rw [List.getD_eq_getElem?_getD, List.getD_eq_getElem?_getD, hu, List.getElem?_eq_getElem i1]
    exact rv
theorem prs_pick {H : Hp} : ∀ {xs : List V} {ps : List (Int × Int)} (idx : List Nat), Prs H xs ps → (∀ i ∈ idx, i < xs.length) → Prs H (idx.map fun i => xs.getD i .non) (idx.map fun i => ps.getD i (0, 0))
  | xs, ps, [], _, _ => .nil
  | xs, ps, i :: r, h, hi => by
    have i1 : i < xs.length := hi i (by simp)
    obtain ⟨p, hp, rv⟩ := h.get (List.getElem?_eq_getElem i1)
    refine .cons ?_ (prs_pick r h fun j hj => hi j (by simp [hj]))
    dsimp only
    rw [List.getD_eq_getElem?_getD, List.getD_eq_getElem?_getD, hp, List.getElem?_eq_getElem i1]
    exact rv
theorem call_sortedPairs {X : Cx} : CallR X (.builtin "sorted") (fun xs H Q => ∃ (p : Addr) (vs : List V) (ps : List (Int × Int)), xs = [.ref p] ∧ SqL X.K H p vs ∧ Prs H vs ps ∧ ps.length < 64 ∧
    ∀ (l : Addr) (vs' : List V) (ps' : List (Int × Int)), H l = none → Prs H vs' ps' → ps'.Perm ps → ps'.Pairwise ple → Q (.ref l) (upd H l (.lst vs'))) := by
  intro pins s σ H xs us Q I r h
  obtain ⟨p, vs, ps, rfl, hq, hP, hn, q⟩ := h
  obtain ⟨u, rfl, rx⟩ := vals1 r
  cases rx
  obtain ⟨its, r', pl, hz⟩ := I.list hq
  have l1 := r'.length
  have l2 := hP.length
  refine sorted_pairs pl.isList (pairs_in I hP r') (by omega) fun idx b1 b2 => ?_
  have hb : ∀ i ∈ idx, i < vs.length := fun i hi => by
    have z := b1.mem_iff.mp hi
    rw [List.mem_range] at z
    omega
  obtain ⟨e, he⟩ := sortedAll_at s.heap its (idx.map fun i => its.getD i .none).toArray
  have len : idx.length = its.length := by rw [b1.length_eq, List.length_range]
  have new : ObjOk X.prog X.w (upd H (s.heap.objs.size + 1) (.lst (idx.map fun i => vs.getD i .non))) (sortedAll s.heap its (idx.map fun i => its.getD i .none).toArray) (s.heap.objs.size + 1) (.lst (idx.map fun i => vs.getD i .non)) :=
    ⟨by rw [List.length_map, len, ← l1]; have := sizeLine_eq; omega, _, e, vals_pick idx r' hb, he⟩
  refine ⟨.ref (s.heap.objs.size + 1), _, I.laid (t' := s.toks) (fun b u e => sortedAll_old e) (Nat.le_succ _) new, rfl, q _ _ _ (I.hok.fresh (Nat.le_succ _)) (prs_pick idx hP hb) (perm_map_range ps (0, 0) (by rw [← l2, l1]; exact b1)) b2⟩
end HW
end
section
set_option Elab.async false
set_option linter.all false
set_option maxRecDepth 100000
namespace HW
open PySem PySem.Spec PyProof.Rows L2
section
variable {X : Cx} {pins : List (Addr × Obj)} {σ : St} {H : Hp} {s : Shared} {scope : Scope} {cl : List (Str × Addr)} {N : List Str} {fp : List Addr}
/-- [elt for x in iter if ..], a value: acc is the new list -/
def tCompE (X : Cx) (N : List Str) (scope : Scope) (wi : TI) (g : TG) (tc : TT) (te : TE) : TE := fun σ H Q => wi σ H fun J H1 => ∀ acc, H1 acc = none →
  ∃ (σ0 : St) (W : Nat → Nat → St → Hp → Prop), σ0.length = N.length ∧
    (∀ (j : Nat) (x : Str) (v : V), N[j]? = some x → σ0[j]? = some (some v) → ∃ i : Nat, X.N[i]? = some x ∧ σ[i]? = some (some v) ∧ X.env.kindOf x = some .cell ∧ (relabel scope X.env).names.lookup x = some .cell) ∧
    (∃ m, W 0 m σ0 (upd H1 acc (.lst []))) ∧ ∀ i m σ' H', W i m σ' H' →
      (J.stop i H' ∧ Q (.ref acc) H') ∨
      (J.go i H' ∧ ∃ N' : St → Hp → Prop, (∀ σ2 H2, N' σ2 H2 → ∃ m', m' < m ∧ W (i + 1) m' σ2 H2) ∧ ∀ x H2, J.yld i H' x H2 → g x σ' H2 fun σ2 H3 => tc σ2 H3 fun b H4 =>
        if b = true then te σ2 H4 fun v H5 => ∃ ys, H5 acc = some (.lst ys) ∧ ys.length < sizeLine ∧ N' σ2 (upd H5 acc (.lst (ys ++ [v]))) else N' σ2 H4)
set_option maxHeartbeats 4000000 in
theorem pe_comp {x : Str} {px pos : Pos} {iter elt : Expr} {ifs : List Expr} {wi : TI} {g : TG} {tc : TT} {te : TE} (hc : X.calm = true) (C : CompOk X scope cl)
    (hI : PI X (.Name x px) iter wi) (hg : ∀ s₃ H₃ ex, PG (cxComp X N scope cl s₃ H₃ ex) (.Name x px) g) (hif : ∀ s₃ H₃ ex, PIf (cxComp X N scope cl s₃ H₃ ex) ifs tc) (he : ∀ s₃ H₃ ex, PE (cxComp X N scope cl s₃ H₃ ex) elt te)
    (hs : ∀ z, foldedSetIterable iter X.env z = pure z := by intro _; rfl) :
    PE X (.ListComp elt [⟨.Name x px, iter, ifs, 0⟩] scope pos) (tCompE X N scope wi g tc te) := by
  intro pins s σ H Q I h
  rw [eval_ListComp]
  refine wpAny_comprehension_free (use := none) (Q := EP X pins σ Q) rfl hs C.clos C.kind C.loc (thn (hI pins s σ H _ I h) fun v s1 h1 => thn h1 fun itv s2 h2 => ?_)
  obtain ⟨it, fp, tn, J, H2, e, I2, T, st2, f2, r2⟩ := h2
  subst e
  have hobj := T.obj _ _ st2
  have hlt2 : ∀ b ∈ fp, b < s2.heap.objs.size := fun b hb => by
    obtain ⟨o, e, _⟩ := hobj b hb
    exact Heap.lt_size e
  -- the new list
  refine wpAny_newObj_type ?_
  have I3 : Inv X pins σ (upd H2 s2.heap.objs.size (.lst [])) { s2 with heap := s2.heap.push { cls := .type "list", data := .seq ([] : List Value).toArray } } := I2.lnew (t' := s2.toks) (ys := []) .nil (Nat.zero_le _)
  have hacc := I2.hok.fresh (Nat.le_refl s2.heap.objs.size)
  obtain ⟨σ0, W, hl0, hv0, ⟨m0, w0⟩, turn⟩ := r2 s2.heap.objs.size hacc
  have hsz : (s2.heap.push { cls := .type "list", data := .seq ([] : List Value).toArray }).objs.size = s2.heap.objs.size + 1 := Heap.size_push ..
  have f3 : ∀ b ∈ fp, FpOk X pins (upd H2 s2.heap.objs.size (.lst [])) b := fun b hb => ⟨by rw [upd_ne (Nat.ne_of_lt (hlt2 b hb))]; exact (f2 b hb).1, (f2 b hb).2⟩
  have hlt3 : ∀ b ∈ fp, b < (s2.heap.push { cls := .type "list", data := .seq ([] : List Value).toArray }).objs.size := fun b hb => by
    rw [hsz]
    exact Nat.lt_succ_of_lt (hlt2 b hb)
  generalize hs3 : ({ s2 with heap := s2.heap.push { cls := .type "list", data := .seq ([] : List Value).toArray } } : Shared) = s3 at I3 ⊢
  have hheap : s3.heap = s2.heap.push { cls := .type "list", data := .seq ([] : List Value).toArray } := by rw [← hs3]
  have st3 : tn 0 s3.heap := T.keep 0 _ _ st2 fun b hb o e => by rw [hheap]; exact Heap.get?_push_of_some _ e
  rw [← hheap] at hlt3
  generalize hH3 : upd H2 s2.heap.objs.size (.lst []) = H3 at I3 f3 w0
  -- the block's own names
  refine wpAny_newFunctionEnv C.nocell (by intro z hz; simp at hz) (fun h4 hn4 hsb4 => ?_) C.kind
  have keep4 : ∀ b o, s3.heap.get? b = some o → h4.get? b = some o := fun b o e => hsb4.extBut b o (Nat.ne_of_lt (Heap.lt_size e)) (Heap.get?_push_of_some _ e)
  have I4 := comp_inv (N := N) (t := s3.toks + ([] : List (Str × Value)).length) I3 C f3 hlt3 hn4 keep4 hl0 hv0
  have fpc : ∀ {H' : Hp}, (∀ b ∈ fp, H' b = none) → ∀ b ∈ fp, FpOk (cxComp X N scope cl s3 H3 fp) [] H' b := fun hn b hb =>
    ⟨hn b hb, Nat.ne_of_lt (hlt3 b hb), fun z => (List.mem_cons.mp (I3.stkSub b z)).elim (f3 b hb).2.1 (f3 b hb).2.2.1, .inl hb, fun z c e => (f3 b hb).2.2.2.2.1 z c (C.sub z c e), fun p hp => by cases hp⟩
  have st4 : tn 0 h4 := T.keep 0 _ _ st3 fun b hb o e => keep4 b o e
  have fC : FpOk X pins H3 s3.heap.objs.size := I3.fpOk (Nat.le_refl _) (I3.hok.fresh (Nat.le_refl _))
  have nof : ∀ {E' : Value → Shared → Prop} (e : Value) (s' : Shared), False → E' e s' := fun _ _ z => z.elim
  have loop : ∀ s5 : Shared, s5 = { s3 with heap := h4, toks := s3.toks + ([] : List (Str × Value)).length } →
      codeAny (model X.prog X.w) X.A (.compLoop (.ListComp elt [⟨.Name x px, iter, ifs, 0⟩] scope pos) 0 (.ref it) (.ref s2.heap.objs.size) (compEnvC scope cl s3.heap.objs.size X.env))
        (compPost (model X.prog X.w) X.A X.xe none (EP X pins σ Q) (.ref s2.heap.objs.size) s3.heap.objs.size) s5 := by
    rintro s5 rfl
    refine codeAny_compLoop_tests (fun n s' => ∃ i σ' H', Inv (cxComp X N scope cl s3 H3 fp) [] σ' H' s' ∧ tn i s'.heap ∧ (∀ b ∈ fp, H' b = none) ∧ W i n σ' H') ?_ m0 ⟨0, σ0, H3, I4, st4, fun b hb => (f3 b hb).1, w0⟩
    rintro n s6 ⟨i, σ6, H6, I6, st6, fr6, w6⟩
    rcases turn i n σ6 H6 w6 with ⟨stop, qn⟩ | ⟨go, N', hN', step⟩
    · refine wpAny_mono (T.done (cxComp X N scope cl s3 H3 fp) rfl rfl rfl hc i [] s6 σ6 H6 (fun _ _ => False) I6 (fpc fr6) st6 stop) (fun r s7 ⟨hr, I7⟩ => ?_) nof
      subst hr
      have I8 : Inv X pins σ H6 s7 := I3.call' I7.os I7.base I7.hok I7.bare fun b hb => ⟨(f3 b hb).2.2.2.1, (f3 b hb).2.1, (f3 b hb).2.2.2.2.1, (f3 b hb).2.2.2.2.2⟩
      obtain ⟨m7, hm7, _⟩ := I7.loc
      refine ⟨m7, hm7, fun h' sbC => ?_⟩
      have hC7 : H6 s3.heap.objs.size = none := I7.free
      have I10 : Inv X pins σ H6 { s7 with heap := h', toks := s7.toks } := I8.turned (it := s3.heap.objs.size) (fun b o hb e => sbC.extBut b o hb e) hC7 fC.2.1 fC.2.2.2.1 fC.2.2.2.2.1 fC.2.2.2.2.2
      exact ⟨.ref s2.heap.objs.size, H6, I10, rfl, qn⟩
    · refine wpAny_mono (T.item (cxComp X N scope cl s3 H3 fp) rfl rfl rfl hc i [] s6 σ6 H6 (fun _ _ => False) I6 (fpc fr6) st6 go) (fun r s7 ⟨u, hr, h7⟩ => ?_) nof
      subst hr
      show wpAny _ X.A (letOwnedTupleGo (.Name x px) (.ref it) u >>= fun _ => assign (.Name x px) (compEnvC scope cl s3.heap.objs.size X.env) u) _ _ _
      refine wpAny_bind (wpAny_mono h7 (fun _ s8 ⟨z, H8, I8, r8, y8, st8, fr8⟩ => ?_) nof)
      have I8' := I8.pinned (fpc fr8) (T.obj _ _ st8)
      refine wpAny_mono (hg s3 H3 fp _ s8 σ6 H8 z u _ I8' r8 (step z H8 y8)) (fun _ s9 ⟨σ9, H9, I9, q9⟩ => ?_) nof
      refine wpAny_mono (hif s3 H3 fp _ s9 σ9 H9 _ I9 q9) (fun b s10 ⟨H10, I10, q10⟩ => ?_) nof
      have again : ∀ {s' : Shared} {H' : Hp}, Inv (cxComp X N scope cl s3 H3 fp) ([] ++ pinsAt fp s8.heap) σ9 H' s' → N' σ9 H' → ∃ m, m < n ∧ ∃ i σ' H', Inv (cxComp X N scope cl s3 H3 fp) [] σ' H' s' ∧ tn i s'.heap ∧ (∀ b ∈ fp, H' b = none) ∧ W i m σ' H' := fun {s' H'} I' n' => by
        obtain ⟨m', hm, w'⟩ := hN' σ9 H' n'
        refine ⟨m', hm, i + 1, σ9, H', I'.unpinned, T.keep _ _ _ st8 fun b hb o e => (I'.pin (b, o) (List.mem_append_right _ (List.mem_append_right _ (mem_pinsAt hb e)))).1, fun b hb => ?_, w'⟩
        obtain ⟨o, e, d⟩ := T.obj _ _ st8 b hb
        exact (I'.pin (b, o) (List.mem_append_right _ (List.mem_append_right _ (mem_pinsAt hb e)))).2.1
      cases b with
      | false =>
        simp only [Bool.false_eq_true, if_false] at q10 ⊢
        exact again I10 q10
      | true =>
        simp only [if_true] at q10 ⊢
        refine wpAny_mono (he s3 H3 fp _ s10 σ9 H10 _ I10 q10) (fun ev s11 ⟨v11, H11, I11, r11, ys, ha, hys, q11⟩ => ?_) nof
        refine wpAny_mono (mt_append (X := cxComp X N scope cl s3 H3 fp) _ s11 σ9 H11 (.ref s2.heap.objs.size) [v11] (.ref s2.heap.objs.size) [ev] (fun _ H' => N' σ9 H') I11 rfl (.cons r11 .nil) ⟨_, ys, v11, rfl, rfl, ha, hys, q11⟩) (fun _ s12 ⟨_, H12, I12, _, q12⟩ => ?_) nof
        exact again I12 q12
  exact codeAny_compStart_list (loop _ rfl) (T.self X.A 0 _ _ _ st4 (loop _ rfl))
end
theorem comp_list {K : PySem.W.Frag} {a : Addr} {xs : List V} {σ0 : St} {H0 : Hp} {body : V → St → Hp → (St → Hp → Prop) → Prop} {Dn : Hp → Prop} (Pv : Nat → St → Hp → Prop) (h0 : Pv 0 σ0 H0) (hl : ∀ i σ' H', i ≤ xs.length → Pv i σ' H' → SqL K H' a xs)
    (hs : ∀ i x σ' H', xs[i]? = some x → Pv i σ' H' → body x σ' H' (Pv (i + 1))) (hd : ∀ σ' H', Pv xs.length σ' H' → Dn H') :
    ∃ W : Nat → Nat → St → Hp → Prop, (∃ m, W 0 m σ0 H0) ∧ ∀ i m σ' H', W i m σ' H' → ((Itl K a).stop i H' ∧ Dn H') ∨
      ((Itl K a).go i H' ∧ ∃ N' : St → Hp → Prop, (∀ σ2 H2, N' σ2 H2 → ∃ m', m' < m ∧ W (i + 1) m' σ2 H2) ∧ ∀ x H2, (Itl K a).yld i H' x H2 → body x σ' H2 N') := by
  refine ⟨fun i m σ H => m = xs.length - i ∧ i ≤ xs.length ∧ Pv i σ H, ⟨xs.length, by simp, Nat.zero_le _, h0⟩, ?_⟩
  rintro i m σ H ⟨rfl, hi, p⟩
  have q := hl i σ H hi p
  by_cases hlt : i < xs.length
  · refine .inr ⟨⟨xs, xs[i], q, (by simp [hlt])⟩, Pv (i + 1), fun σ' H' p' => ⟨xs.length - (i + 1), (by omega), rfl, hlt, p'⟩, fun x H' y => ?_⟩
    obtain ⟨e, y⟩ := y
    subst e
    exact hs i x σ _ (y xs q) p
  · obtain rfl : i = xs.length := by omega
    exact .inl ⟨⟨xs, q, Nat.le_refl _⟩, hd σ H p⟩
end HW
end
section
set_option Elab.async false
set_option linter.all false
set_option maxRecDepth 100000
namespace HW
open PySem PySem.Spec PyProof.Rows L2
open AutoSeq1 (wpAny_loadPart')
open MeetsSeq MeetsSeq2 MeetsSeq3 SeqRoads2 SeqAt
theorem removeLoop (l : Addr) (vs : Array Value) (ep : Nat) (u : Value) (f : Value → Bool) (at_ : Nat) (hj : at_ < vs.size) (yes : f vs[at_] = true) (fits : vs.size ≤ sizeLine) (k : Nat) :
    ∀ i : Nat, at_ - i = k → i ≤ at_ → (∀ m (hm : m < vs.size), i ≤ m → m < at_ → f vs[m] = false) → Meets (Builtin.«list.remove.loop» ⟨[.ref l, u, rawInt i], []⟩)
      (fun A R s => s.heap.get? l = some { cls := .type "list", dict := none, data := .seq vs ep, slots := #[] } ∧ (∀ y, y ∈ vs → EqAt A.in1 s y u (f y)) ∧ R (.ok (.ret .none)) { s with heap := s.heap.update l (Obj.mapSeq fun xs => xs.eraseIdxIfInBounds at_) }) := by
  induction k with
  | zero =>
    intro i hk le no prog w A R s h
    obtain ⟨hp, g, d, tk, os⟩ := s
    obtain ⟨hl, he, h⟩ := h
    obtain rfl : i = at_ := by omega
    wp_walk using wpAny_loadPart' hl
    have e1 : vs[((i : Nat) : Int).toNat]? = some vs[i] := by simp [hj]
    rw [e1]
    refine wpAny_bind (he _ (Array.getElem_mem hj) prog w _ _ ?_)
    rw [yes]
    have hz' : (vs.eraseIdxIfInBounds i).size ≤ sizeLine + 1 := Nat.le_trans (size_erased vs _) (Nat.le_succ_of_le fits)
    wp_walk using (wpAny_updateSeq hl rfl (hz := fits) (_hz' := hz')), wpAny_loadPart' hl
    simpa using h
  | succ k ih =>
    intro i hk le no prog w A R s h
    obtain ⟨hp, g, d, tk, os⟩ := s
    obtain ⟨hl, he, h⟩ := h
    have lt : i < vs.size := by omega
    wp_walk using wpAny_loadPart' hl
    have e1 : vs[((i : Nat) : Int).toNat]? = some vs[i] := by simp [lt]
    have e2 : ((i : Int) + 1) = ((i + 1 : Nat) : Int) := by push_cast; rfl
    rw [e1]
    refine wpAny_bind (he _ (Array.getElem_mem lt) prog w _ _ ?_)
    rw [no i lt (Nat.le_refl _) (by omega)]
    wp_walk
    rw [e2]
    refine ⟨plainId_quiet plain_remove_loop _, codeAny_builtin entry_remove_loop ?_⟩
    rw [Around.under_plainId plain_remove_loop _]
    exact ih (i + 1) (by omega) (by omega) (fun m hm h1 h2 => no m hm (by omega) h2) prog w A R _ ⟨hl, he, h⟩
theorem removeAt (l : Addr) (vs : Array Value) (ep : Nat) (u : Value) (f : Value → Bool) (at_ : Nat) (hj : at_ < vs.size) (yes : f vs[at_] = true) (no : ∀ m (hm : m < vs.size), m < at_ → f vs[m] = false) (fits : vs.size ≤ sizeLine) :
    Meets (Builtin.«list.remove» ⟨[.ref l, u], []⟩)
      (fun A R s => s.heap.get? l = some { cls := .type "list", dict := none, data := .seq vs ep, slots := #[] } ∧ (∀ y, y ∈ vs → EqAt A.in1 s y u (f y)) ∧ R (.ok (.ret .none)) { s with heap := s.heap.update l (Obj.mapSeq fun xs => xs.eraseIdxIfInBounds at_) }) := by
  intro prog w A R s h
  obtain ⟨hp, g, d, tk, os⟩ := s
  obtain ⟨hl, he, h⟩ := h
  wp_walk using wpAny_loadPart' hl
  refine ⟨plainId_quiet plain_remove_loop _, codeAny_builtin entry_remove_loop ?_⟩
  rw [Around.under_plainId plain_remove_loop _]
  exact removeLoop l vs ep u f at_ hj yes fits _ 0 rfl (Nat.zero_le _) (fun m hm _ h2 => no m hm h2) prog w A R _ ⟨hl, he, h⟩
/-! ### list.remove of a pair -/
open Classical in
noncomputable def isPr (H : Hp) (p : Int × Int) (u : Value) : Bool := decide (∃ (a : Addr) (q : Int × Int), u = .ref a ∧ H a = some (.tup [.int q.1, .int q.2]) ∧ q = p)
theorem isPr_ref {H : Hp} {p q : Int × Int} {a : Addr} (h : H a = some (.tup [.int q.1, .int q.2])) : isPr H p (.ref a) = decide (q = p) := by
  unfold isPr
  rw [decide_eq_decide]
  constructor
  · rintro ⟨a', q', e1, h1, e2⟩
    injection e1 with e1
    subst e1
    have z := Option.some.inj (h.symm.trans h1)
    simp only [HO.tup.injEq, List.cons.injEq, V.int.injEq, and_true] at z
    rw [← e2]
    exact Prod.ext z.1 z.2
  · rintro rfl
    exact ⟨a, q, rfl, h, rfl⟩
theorem prs_at {H : Hp} : ∀ {xs : List V} {ps : List (Int × Int)} {us : List Value} {i : Nat} {u : Value}, Prs H xs ps → Vals xs us → us[i]? = some u → ∃ (a : Addr) (q : Int × Int), u = .ref a ∧ ps[i]? = some q ∧ H a = some (.tup [.int q.1, .int q.2])
  | _, _, _, i, _, .nil, .nil, h => by simp at h
  | _, _, _, 0, _, .cons hd _, .cons rv _, h => by
    obtain ⟨a, rfl, ha⟩ := hd
    cases rv
    exact ⟨a, _, by simpa using h.symm, rfl, ha⟩
  | _, _, _, i + 1, _, .cons _ tl, .cons _ rt, h => by
    obtain ⟨a, q, h1, h2, h3⟩ := prs_at (i := i) tl rt (by simpa using h)
    exact ⟨a, q, h1, by simpa using h2, h3⟩
theorem prs_eq {X : Cx} {A : Around} {pins : List (Addr × Obj)} {σ : St} {H : Hp} {s : Shared} (I : Inv X pins σ H s) {b : Addr} {p : Int × Int} (hb : H b = some (.tup [.int p.1, .int p.2])) (hu : A.units < cLine)
    {xs : List V} {ps : List (Int × Int)} {us : List Value} (hp : Prs H xs ps) (hv : Vals xs us) : ∀ u ∈ us, EqAt A s u (.ref b) (isPr H p u) := by
  intro u hu'
  obtain ⟨i, hi⟩ := List.mem_iff_getElem?.mp hu'
  obtain ⟨a, q, rfl, _, ha⟩ := prs_at hp hv hi
  obtain ⟨its2, r2, pl2, _⟩ := I.tuple (xs := [.int p.1, .int p.2]) (SqT.of hb)
  obtain ⟨its, r, pl, _⟩ := I.tuple (xs := [.int q.1, .int q.2]) (SqT.of ha)
  have z := eqAt_tups (A := A) (ns := [q.1, q.2]) (ms := [p.1, p.2]) pl pl2 r r2 hu
  have e : decide ([q.1, q.2] = [p.1, p.2]) = decide (q = p) := by
    rw [decide_eq_decide]
    constructor
    · intro e
      simp only [List.cons.injEq, and_true] at e
      exact Prod.ext e.1 e.2
    · rintro rfl
      rfl
  rw [isPr_ref ha, ← e]
  exact z
theorem Prs.erase {H : Hp} : ∀ {xs : List V} {ps : List (Int × Int)} (k : Nat), Prs H xs ps → Prs H (xs.eraseIdx k) (ps.eraseIdx k)
  | _, _, _, .nil => .nil
  | _, _, 0, .cons _ t => t
  | _, _, k + 1, .cons h t => .cons h (Prs.erase k t)
theorem mt_removeP {X : Cx} (hu : X.A.units + 1 < cLine) : MtM X "list.remove" (fun x vs H Q => ∃ (l b : Addr) (p : Int × Int) (xs : List V) (ps : List (Int × Int)), x = .ref l ∧ vs = [.ref b] ∧ H b = some (.tup [.int p.1, .int p.2]) ∧ H l = some (.lst xs) ∧ Prs H xs ps ∧ p ∈ ps ∧
    Q .non (upd H l (.lst (xs.eraseIdx (ps.idxOf p))))) := by
  intro pins s σ H x vs v us Q I rx rv h
  obtain ⟨l, b, p, xs, ps, rfl, rfl, hb, hH, hP, hm, q⟩ := h
  cases rx
  obtain ⟨u, rfl, ru⟩ := rv.one
  cases ru
  obtain ⟨z, its, n, r, hl, e⟩ := I.lstM hH
  have len := hP.length
  have hj : ps.idxOf p < ps.length := List.idxOf_lt_length_of_mem hm
  have hj' : ps.idxOf p < its.length := by omega
  have at_ : ∀ m (hm : m < its.toArray.size), isPr H p its.toArray[m] = decide (ps[m]'(by rw [List.size_toArray] at hm; omega) = p) := fun m hm => by
    rw [List.size_toArray] at hm
    obtain ⟨a, q', h1, h2, h3⟩ := prs_at (i := m) hP r (List.getElem?_eq_getElem hm)
    have e1 : its.toArray[m] = Value.ref a := by simpa using h1
    rw [e1, isPr_ref h3]
    rw [List.getElem?_eq_getElem (by omega)] at h2
    rw [Option.some.inj h2]
  refine call_meets F.slot_list_remove ⟨_, e, rfl⟩ F.entry_list_remove (F.args_list_remove_2 _ _) (removeAt l its.toArray n (.ref b) (isPr H p) (ps.idxOf p) (by rw [List.size_toArray]; omega) ?_ ?_ (by rw [List.size_toArray]; omega)) ⟨e, fun y hy => prs_eq I hb hu hP r y (by simpa using hy), ?_⟩
  · rw [at_, List.getElem_idxOf hj]
    exact decide_eq_true rfl
  · intro m hm hlt
    rw [at_]
    exact decide_eq_false fun z => absurd (List.not_of_lt_findIdx (p := (· == p)) hlt) (by simp [z])
  · refine ⟨.non, _, I.lset (its' := its.eraseIdx (ps.idxOf p)) hH e ?_ (r.eraseIdx _) ?_, rfl, q⟩
    · show its.toArray.eraseIdxIfInBounds _ = (its.eraseIdx _).toArray
      rw [List.eraseIdxIfInBounds_toArray]
    · have := len_erase xs (ps.idxOf p)
      omega
theorem erase_at {ps : List (Int × Int)} {p : Int × Int} : ps.eraseIdx (ps.idxOf p) = ps.erase p := (List.erase_eq_eraseIdx_of_idxOf rfl).symm
/-! ### the same things in two lists -/
theorem refs_same : ∀ {xs : List V} {us us' : List Value}, Vals xs us → Vals xs us' → (∀ v ∈ xs, ∃ t, v = .ref t) → us = us'
  | _, _, _, .nil, .nil, _ => rfl
  | _, _, _, .cons r1 rt, .cons q1 qt, hr => by
    obtain ⟨t, rfl⟩ := hr _ (List.mem_cons_self ..)
    cases r1
    cases q1
    rw [refs_same rt qt fun v hv => hr v (List.mem_cons_of_mem _ hv)]
theorem op_eqSame {X : Cx} (hu : X.A.units < cLine) : OpR X (compareOp .Eq) (fun x y H Q => ∃ (a b : Addr) (xs : List V), x = .ref a ∧ y = .ref b ∧ SqL X.K H a xs ∧ SqL X.K H b xs ∧ (∀ v ∈ xs, ∃ t, v = .ref t) ∧ Q (.bl true) H) := by
  intro pins s σ H x y v u Q I rx ry h
  obtain ⟨a, b, xs, rfl, rfl, ha, hb, hr, q⟩ := h
  cases rx
  cases ry
  obtain ⟨its, r, pl, _⟩ := I.list ha
  obtain ⟨its2, r2, pl2, _⟩ := I.list hb
  have same : its = its2 := refs_same r r2 hr
  subst same
  refine RcAt.lists (e := fun _ => true) pl.isList pl2.isList rfl hu (fun j h1 h2 => EqAt.same _) _ _ _ _ ⟨.bl true, H, I, ?_, q⟩
  show Value.bool _ = Value.bool true
  rw [List.all_eq_true.mpr (fun _ _ => rfl)]
end HW
end
section
set_option Elab.async false
set_option linter.all false
set_option maxRecDepth 100000
namespace HW
open PySem PySem.Spec PyProof.Rows L2
/-! ### the deeds of a day, and what comes of them -/
inductive Kd where
  | build | pull | way
  deriving DecidableEq
def Kd.word : Kd → Str
  | .build => Str.ofString "build"
  | .pull => Str.ofString "pull"
  | .way => Str.ofString "way"
abbrev Deed := Kd × Int × Int
/-- what comes of a deed -/
inductive Wd where
  | noPlace | onePlace | stands | noBridge | built | pulled | way
  deriving DecidableEq
def Wd.text : Wd → Str
  | .noPlace => Str.ofString "no place"
  | .onePlace => Str.ofString "one place"
  | .stands => Str.ofString "stands"
  | .noBridge => Str.ofString "no bridge"
  | .built => Str.ofString "built"
  | .pulled => Str.ofString "pulled"
  | .way => Str.ofString ""
def bdg (x y : Int) : Int × Int := (if y < x then y else x, if y > x then y else x)
def out (B : List Int) (qs : List (Int × Int)) (d : Deed) : Wd :=
  if d.2.1 ∈ B ∧ d.2.2 ∈ B then
    if d.1 = .way then .way
    else if d.2.1 = d.2.2 then .onePlace
    else if d.1 = .build then (if bdg d.2.1 d.2.2 ∈ qs then .stands else .built)
    else if bdg d.2.1 d.2.2 ∈ qs then .pulled else .noBridge
  else .noPlace
def nextQ (qs : List (Int × Int)) (d : Deed) : Wd → List (Int × Int)
  | .built => qs ++ [bdg d.2.1 d.2.2]
  | .pulled => qs.erase (bdg d.2.1 d.2.2)
  | _ => qs
def stepQ (B : List Int) (qs : List (Int × Int)) (d : Deed) : List (Int × Int) := nextQ qs d (out B qs d)
def afterQ (B : List Int) (ds : List Deed) : List (Int × Int) := ds.foldl (stepQ B) []
theorem afterQ_snoc {B : List Int} {ds : List Deed} {i : Nat} {d : Deed} (h : ds[i]? = some d) : afterQ B (ds.take (i + 1)) = stepQ B (afterQ B (ds.take i)) d := by
  have e : ds.take (i + 1) = ds.take i ++ [d] := by
    rw [List.take_add_one, h]
    rfl
  unfold afterQ
  rw [e, List.foldl_append]
  rfl
/-- bridges as they are kept: the lesser place first, none twice, places of the map -/
structure Kept (B : List Int) (qs : List (Int × Int)) : Prop where
  le : ∀ p ∈ qs, p.1 ≤ p.2
  nd : qs.Nodup
  sub : ∀ p ∈ qs, p.1 ∈ B ∧ p.2 ∈ B
theorem Kept.nil (B : List Int) : Kept B [] := ⟨fun _ h => (by simp at h), List.nodup_nil, fun _ h => (by simp at h)⟩
theorem bdg_le (x y : Int) : (bdg x y).1 ≤ (bdg x y).2 := by
  unfold bdg
  dsimp only
  split <;> split <;> omega
theorem bdg_cases (x y : Int) : bdg x y = (x, y) ∨ bdg x y = (y, x) := by
  unfold bdg
  by_cases h : y < x
  · rw [if_pos h, if_neg (by omega)]
    exact .inr rfl
  · rw [if_neg h]
    by_cases h2 : y > x
    · rw [if_pos h2]
      exact .inl rfl
    · rw [if_neg h2]
      have : x = y := by omega
      rw [this]
      exact .inl rfl
theorem bdg_mem {qs : List (Int × Int)} {x y : Int} (h : ∀ p ∈ qs, p.1 ≤ p.2) : bdg x y ∈ qs ↔ (x, y) ∈ qs ∨ (y, x) ∈ qs := by
  constructor
  · intro m
    rcases bdg_cases x y with e | e <;> rw [e] at m
    · exact .inl m
    · exact .inr m
  · rintro (m | m)
    · have z := h _ m
      have e : bdg x y = (x, y) := by
        unfold bdg
        rw [if_neg (by simp at z; omega)]
        split
        · rfl
        · rw [show x = y by simp at z; omega]
      rw [e]
      exact m
    · have z := h _ m
      have e : bdg x y = (y, x) := by
        unfold bdg
        rw [if_neg (show ¬ y > x by simp at z; omega)]
        split
        · rfl
        · rw [show x = y by simp at z; omega]
      rw [e]
      exact m
theorem Kept.step {B : List Int} {qs : List (Int × Int)} (k : Kept B qs) (d : Deed) : Kept B (stepQ B qs d) := by
  unfold stepQ out
  split
  · rename_i hB
    split
    · exact k
    · split
      · exact k
      · split
        · split
          · exact k
          · rename_i hm
            show Kept B (qs ++ [bdg d.2.1 d.2.2])
            refine ⟨fun p hp => ?_, ?_, fun p hp => ?_⟩
            · rcases List.mem_append.mp hp with hp | hp
              · exact k.le p hp
              · rw [List.mem_singleton.mp hp]
                exact bdg_le _ _
            · rw [List.nodup_append]
              refine ⟨k.nd, by simp, fun a ha b hb => ?_⟩
              rw [List.mem_singleton.mp hb]
              rintro rfl
              exact hm ha
            · rcases List.mem_append.mp hp with hp | hp
              · exact k.sub p hp
              · rw [List.mem_singleton.mp hp]
                rcases bdg_cases d.2.1 d.2.2 with e | e <;> rw [e]
                · exact hB
                · exact ⟨hB.2, hB.1⟩
        · split
          · show Kept B (qs.erase (bdg d.2.1 d.2.2))
            exact ⟨fun p hp => k.le p (List.mem_of_mem_erase hp), k.nd.erase _, fun p hp => k.sub p (List.mem_of_mem_erase hp)⟩
          · exact k
  · exact k
theorem stepQ_len (B : List Int) (qs : List (Int × Int)) (d : Deed) : (stepQ B qs d).length ≤ qs.length + 1 := by
  unfold stepQ
  generalize out B qs d = o
  cases o <;> simp only [nextQ, List.length_append, List.length_singleton] <;> first | omega | exact Nat.le_succ_of_le (List.length_erase_le ..)
theorem afterQ_ok {B : List Int} {ds : List Deed} : ∀ i : Nat, i ≤ ds.length → Kept B (afterQ B (ds.take i)) ∧ (afterQ B (ds.take i)).length ≤ i
  | 0, _ => ⟨Kept.nil B, Nat.le_refl _⟩
  | i + 1, h => by
    obtain ⟨h1, h2⟩ := afterQ_ok (B := B) (ds := ds) i (by omega)
    have e : ds[i]? = some ds[i] := List.getElem?_eq_getElem (by omega)
    rw [afterQ_snoc e]
    exact ⟨h1.step _, by have := stepQ_len B (afterQ B (ds.take i)) ds[i]; omega⟩
/-! ### a deed, a list of deeds -/
def DeedAt (H : Hp) (v : V) (d : Deed) : Prop := ∃ t, v = .ref t ∧ H t = some (.tup [.str d.1.word, .int d.2.1, .int d.2.2])
abbrev Dds (H : Hp) : List V → List Deed → Prop := Paired (DeedAt H)
theorem _root_.L2.Same.dds {H H' : Hp} (e : Same H H') {xs : List V} {ds : List Deed} (h : Dds H xs ds) : Dds H' xs ds := Paired.mapP h fun v p ⟨a, h1, h2⟩ => ⟨a, h1, e _ _ h2⟩
theorem Dds.get {H : Hp} : ∀ {xs : List V} {ds : List Deed} {i : Nat} {x : V}, Dds H xs ds → xs[i]? = some x → ∃ d, ds[i]? = some d ∧ DeedAt H x d
  | _, _, _, _, .nil, e => by simp at e
  | _, _, 0, _, .cons r _, e => by simp at e; subst e; exact ⟨_, rfl, r⟩
  | _, _, i + 1, x, .cons _ t, e => by
    obtain ⟨p, h1, h2⟩ := Dds.get (i := i) (x := x) t (by simpa using e)
    exact ⟨p, by simpa using h1, h2⟩
theorem Dds.snoc {H : Hp} {xs : List V} {ds : List Deed} {v : V} {p : Deed} (h : Dds H xs ds) (hv : DeedAt H v p) : Dds H (xs ++ [v]) (ds ++ [p]) := by
  induction h with
  | nil => exact .cons hv .nil
  | cons a _ ih => exact .cons a ih
theorem Dds.refs {H : Hp} {xs : List V} {ds : List Deed} (h : Dds H xs ds) : ∀ v ∈ xs, ∃ t, v = .ref t := by
  induction h with
  | nil => intro v hv; simp at hv
  | cons a _ ih =>
    intro v hv
    rcases List.mem_cons.mp hv with e | hv
    · obtain ⟨t, h1, _⟩ := a
      exact ⟨t, e.trans h1⟩
    · exact ih v hv
/-! ### the chart -/
theorem pl_br : ¬ (("places" : Str) = "bridges") := by decide +kernel
def flds (a b : Addr) : List (Str × V) := putF "bridges" (.ref b) (putF "places" (.ref a) [])
theorem flds_eq (a b : Addr) : flds a b = ([("places", V.ref a), ("bridges", V.ref b)] : List (Str × V)) := by
  show (if ("places" : Str) = "bridges" then [(("places" : Str), V.ref b)] else (("places" : Str), V.ref a) :: putF "bridges" (V.ref b) []) = ([("places", V.ref a), ("bridges", V.ref b)] : List (Str × V))
  rw [if_neg pl_br]
  all_goals rfl
theorem flds_places (a b : Addr) : (flds a b).lookup ("places" : Str) = some (.ref a) := by
  unfold flds
  rw [lookup_putF, if_neg pl_br, lookup_putF, if_pos rfl]
theorem flds_bridges (a b : Addr) : (flds a b).lookup ("bridges" : Str) = some (.ref b) := by
  unfold flds
  rw [lookup_putF, if_pos rfl]
theorem flds_no (a b : Addr) {m : Str} (h1 : ¬ m = "bridges") (h2 : ¬ m = "places") : (flds a b).lookup m = none := by
  unfold flds
  rw [lookup_putF, if_neg h1, lookup_putF, if_neg h2]
  all_goals rfl
theorem flds_len (a b : Addr) : (flds a b).length < 1000 := by
  rw [flds_eq]
  show 2 < 1000
  decide
theorem flds_put (a b c : Addr) : putF "bridges" (.ref c) (flds a b) = flds a c := by
  rw [flds_eq, flds_eq]
  show (if ("places" : Str) = "bridges" then _ else (("places" : Str), V.ref a) :: (if ("bridges" : Str) = "bridges" then [(("bridges" : Str), V.ref c)] else _)) = ([("places", V.ref a), ("bridges", V.ref c)] : List (Str × V))
  rw [if_neg pl_br, if_pos rfl]
/-- all that stood stands, but what stands at p -/
def SameX (p : Addr) (H H' : Hp) : Prop := ∀ b o, H b = some o → b ≠ p → H' b = some o
theorem SameX.of {p : Addr} {H H' : Hp} (s : Same H H') : SameX p H H' := fun b o h _ => s b o h
theorem SameX.trans {p : Addr} {H H1 H2 : Hp} (a : SameX p H H1) (b : SameX p H1 H2) : SameX p H H2 := fun c o h n => b c o (a c o h n) n
theorem SameX.put {p : Addr} {H H' : Hp} (s : SameX p H H') (o : HO) : SameX p H (upd H' p o) := fun b u q n => by rw [upd_ne n]; exact s b u q n
/-- the chart at p: its places at a, its bridges at b -/
structure ChartAt (C : Addr) (H : Hp) (p a b : Addr) (B : List Int) (ps : List (Int × Int)) : Prop where
  ob : ∃ dx, H p = some (.ins C dx (flds a b))
  pl : H a = some (.lst (B.map V.int))
  br : ∃ xs, H b = some (.lst xs) ∧ Prs H xs ps
theorem ChartAt.same {C p a b : Addr} {H H' : Hp} {B : List Int} {ps : List (Int × Int)} (c : ChartAt C H p a b B ps) (s : Same H H') : ChartAt C H' p a b B ps := by
  obtain ⟨⟨dx, h1⟩, h2, xs, h3, h4⟩ := c
  exact ⟨⟨dx, s _ _ h1⟩, s _ _ h2, xs, s _ _ h3, s.prs h4⟩
theorem SameX.lst {C p a dx : Addr} {H H' : Hp} {fs : List (Str × V)} {xs : List V} (s : SameX p H H') (hp : H p = some (.ins C dx fs)) (h : H a = some (.lst xs)) : H' a = some (.lst xs) := s _ _ h (ne_of h hp (by intro z; cases z))
theorem SameX.tup {C p a dx : Addr} {H H' : Hp} {fs : List (Str × V)} {xs : List V} (s : SameX p H H') (hp : H p = some (.ins C dx fs)) (h : H a = some (.tup xs)) : H' a = some (.tup xs) := s _ _ h (ne_of h hp (by intro z; cases z))
theorem SameX.prs {C p dx : Addr} {H H' : Hp} {fs : List (Str × V)} (s : SameX p H H') (hp : H p = some (.ins C dx fs)) {xs : List V} {ps : List (Int × Int)} (h : Prs H xs ps) : Prs H' xs ps := Paired.mapP h fun v q ⟨a, h1, h2⟩ => ⟨a, h1, s.tup hp h2⟩
theorem SameX.dds {C p dx : Addr} {H H' : Hp} {fs : List (Str × V)} (s : SameX p H H') (hp : H p = some (.ins C dx fs)) {xs : List V} {ds : List Deed} (h : Dds H xs ds) : Dds H' xs ds := Paired.mapP h fun v q ⟨a, h1, h2⟩ => ⟨a, h1, s.tup hp h2⟩
/-- a list that is not the chart's is written -/
theorem ChartAt.put {C p a b c : Addr} {H : Hp} {B : List Int} {ps : List (Int × Int)} {zs ys : List V} (h : ChartAt C H p a b B ps) (hc : H c = some (.lst zs)) (ha : a ≠ c) (hb : b ≠ c) : ChartAt C (upd H c (.lst ys)) p a b B ps := by
  obtain ⟨⟨dx, h1⟩, h2, xs, h3, h4⟩ := h
  refine ⟨⟨dx, by rw [upd_ne (ne_of h1 hc (by intro z; cases z))]; exact h1⟩, by rw [upd_ne ha]; exact h2, xs, by rw [upd_ne hb]; exact h3, Paired.mapP h4 fun v q ⟨t, e1, e2⟩ => ⟨t, e1, ?_⟩⟩
  rw [upd_ne (ne_of e2 hc (by intro z; cases z))]
  exact e2
/-- the chart's bridges are those that are kept, in order -/
structure ChOk (ps qs : List (Int × Int)) : Prop where
  pm : ps.Perm qs
  or : ps.Pairwise ple
theorem WayOk.mem {ps qs : List (Int × Int)} {B : List Int} {one other : Int} (h : ∀ z, z ∈ ps ↔ z ∈ qs) : ∀ {road : Bool} {row : List Int}, WayOk ps B one other road row → WayOk qs B one other road row := by
  have ha : ∀ x y, adj ps x y → adj qs x y := fun x y a => a.imp (h _).mp (h _).mp
  have hb : ∀ x y, adj qs x y → adj ps x y := fun x y a => a.imp (h _).mpr (h _).mpr
  intro road row w
  cases road with
  | true =>
    have w' : Road ps one row other := w
    show Road qs one row other
    induction w' with
    | here => exact .here
    | step r a n ih => exact .step (ih r) (ha _ _ a) n
  | false =>
    obtain ⟨w1, w2, w3, w4, w5⟩ := w
    exact ⟨w1, w2, w3, fun x hx z a => w4 x hx z (hb _ _ a), w5⟩
theorem WayOk.ne {ps : List (Int × Int)} {B : List Int} {one other : Int} : ∀ {road : Bool} {row : List Int}, WayOk ps B one other road row → row ≠ []
  | true, row, w => Road.ne w
  | false, row, w => List.ne_nil_of_mem w.2.1
/-- the answer to a deed -/
def AnsV (H : Hp) (B : List Int) (qs : List (Int × Int)) (d : Deed) (v : V) : Prop :=
  (out B qs d ≠ .way ∧ v = .str (out B qs d).text) ∨
  (out B qs d = .way ∧ ∃ (t l : Addr) (row : List Int) (road : Bool), v = .ref t ∧ H t = some (.tup [.str (wayWord road), .ref l]) ∧ H l = some (.lst (row.map V.int)) ∧ row.length < 64 ∧ WayOk qs B d.2.1 d.2.2 road row)
theorem AnsV.same {H H' : Hp} {B : List Int} {qs : List (Int × Int)} {d : Deed} {v : V} (h : AnsV H B qs d v) (s : ∀ b o, H b = some o → (∃ xs, o = .tup xs ∨ (∃ ns : List Int, ns ≠ [] ∧ o = .lst (ns.map V.int))) → H' b = some o) : AnsV H' B qs d v := by
  rcases h with h | ⟨e, t, l, row, road, h1, h2, h3, h4, h5⟩
  · exact .inl h
  · exact .inr ⟨e, t, l, row, road, h1, s _ _ h2 ⟨_, .inl rfl⟩, s _ _ h3 ⟨[], .inr ⟨row, h5.ne, rfl⟩⟩, h4, h5⟩
theorem AnsV.word {H : Hp} {B : List Int} {qs : List (Int × Int)} {d : Deed} {o : Wd} (e : out B qs d = o) (h : o ≠ .way) : AnsV H B qs d (.str o.text) := .inl (by rw [e]; exact ⟨h, rfl⟩)
theorem AnsV.noInt {H : Hp} {B : List Int} {qs : List (Int × Int)} {d : Deed} {v : V} (h : AnsV H B qs d v) : ∀ z : Int, v ≠ .int z := by
  rcases h with ⟨_, rfl⟩ | ⟨_, t, l, row, road, rfl, _⟩
  · intro z e; cases e
  · intro z e; cases e
def AnsAll (H : Hp) (B : List Int) (ds : List Deed) (vs : List V) : Prop := ∀ i d v, ds[i]? = some d → vs[i]? = some v → AnsV H B (afterQ B (ds.take i)) d v
/-! ### promises -/
def spInit (C : Addr) : Sp := fun vs H Q _ => ∃ (p dx g : Addr) (B : List Int), vs = [.ref p, .ref g] ∧ H p = some (.ins C dx []) ∧ H g = some (.lst (B.map V.int)) ∧
  ∀ (a b : Addr) (H' : Hp), H a = none → H b = none → SameX p H H' → ChartAt C H' p a b B [] → Q .non H'
def spLesser : Sp := fun vs H Q _ => ∃ (x y : Int), vs = [.int x, .int y] ∧ ∀ t, H t = none → Q (.ref t) (upd H t (.tup [.int (bdg x y).1, .int (bdg x y).2]))
def spBetween (C CN CO : Addr) : Sp := fun vs H Q E => ∃ (p a b : Addr) (B : List Int) (ps : List (Int × Int)) (x y : Int), vs = [.ref p, .int x, .int y] ∧ ChartAt C H p a b B ps ∧
  (¬ (x ∈ B ∧ y ∈ B) → E (.ref CN) none H) ∧ (x ∈ B → y ∈ B → x = y → E (.ref CO) none H) ∧
  (x ∈ B → y ∈ B → x ≠ y → ∀ t H', Same H H' → H' t = some (.tup [.int (bdg x y).1, .int (bdg x y).2]) → Q (.ref t) H')
def spBuild (C CN CO CS : Addr) : Sp := fun vs H Q E => ∃ (p a b : Addr) (B : List Int) (ps : List (Int × Int)) (x y : Int), vs = [.ref p, .int x, .int y] ∧ ChartAt C H p a b B ps ∧ ps.length < 63 ∧
  (¬ (x ∈ B ∧ y ∈ B) → E (.ref CN) none H) ∧ (x ∈ B → y ∈ B → x = y → E (.ref CO) none H) ∧
  (x ∈ B → y ∈ B → x ≠ y → bdg x y ∈ ps → ∀ H', Same H H' → E (.ref CS) none H') ∧
  (x ∈ B → y ∈ B → x ≠ y → bdg x y ∉ ps → ∀ (b' : Addr) (ps' : List (Int × Int)) (H' : Hp), H b' = none → SameX p H H' → ChartAt C H' p a b' B ps' → ps'.Perm (ps ++ [bdg x y]) → ps'.Pairwise ple → Q .non H')
def spPull (C CN CO CB : Addr) : Sp := fun vs H Q E => ∃ (p a b : Addr) (B : List Int) (ps : List (Int × Int)) (x y : Int), vs = [.ref p, .int x, .int y] ∧ ChartAt C H p a b B ps ∧ ps.length < 63 ∧
  (¬ (x ∈ B ∧ y ∈ B) → E (.ref CN) none H) ∧ (x ∈ B → y ∈ B → x = y → E (.ref CO) none H) ∧
  (x ∈ B → y ∈ B → x ≠ y → bdg x y ∉ ps → ∀ H', Same H H' → E (.ref CB) none H') ∧
  (x ∈ B → y ∈ B → x ≠ y → bdg x y ∈ ps → ∀ (b' : Addr) (H' : Hp), H b' = none → SameX p H H' → ChartAt C H' p a b' B (ps.filter fun q => decide (q ≠ bdg x y)) → Q .non H')
/-- what the chart is behind a deed -/
structure Behind (C : Addr) (H H' : Hp) (p a b b' : Addr) (B : List Int) (qs : List (Int × Int)) : Prop where
  nb : b' = b ∨ H b' = none
  sx : SameX p H H'
  ch : ∃ ps, ChartAt C H' p a b' B ps ∧ ChOk ps qs
def excOf (CN CO CS CB : Addr) : Wd → Option Addr
  | .noPlace => some CN
  | .onePlace => some CO
  | .stands => some CS
  | .noBridge => some CB
  | _ => none
def spDo (C CN CO CS CB : Addr) : Sp := fun vs H Q E => ∃ (p a b t : Addr) (B : List Int) (ps qs : List (Int × Int)) (d : Deed), vs = [.ref p, .ref t] ∧ ChartAt C H p a b B ps ∧ ChOk ps qs ∧ Kept B qs ∧ qs.length < 63 ∧ B.length < 64 ∧ H t = some (.tup [.str d.1.word, .int d.2.1, .int d.2.2]) ∧
  (∀ c H', excOf CN CO CS CB (out B qs d) = some c → Same H H' → E (.ref c) none H') ∧
  (excOf CN CO CS CB (out B qs d) = none → ∀ v b' H', Behind C H H' p a b b' B (stepQ B qs d) → AnsV H' B qs d v → Q v H')
def spAnsOn (C : Addr) : Sp := fun vs H Q _ => ∃ (p a b t : Addr) (B : List Int) (ps qs : List (Int × Int)) (d : Deed), vs = [.ref p, .ref t] ∧ ChartAt C H p a b B ps ∧ ChOk ps qs ∧ Kept B qs ∧ qs.length < 63 ∧ B.length < 64 ∧ H t = some (.tup [.str d.1.word, .int d.2.1, .int d.2.2]) ∧
  ∀ v b' H', Behind C H H' p a b b' B (stepQ B qs d) → AnsV H' B qs d v → Q v H'
def spAnssOn (C : Addr) : Sp := fun vs H Q _ => ∃ (p a b l : Addr) (B : List Int) (xs : List V) (ds : List Deed), vs = [.ref p, .ref l] ∧ ChartAt C H p a b B [] ∧ B.length < 64 ∧ H l = some (.lst xs) ∧ Dds H xs ds ∧ ds.length < 63 ∧
  ∀ (r b' : Addr) (rs : List V) (H' : Hp), SameX p H H' → H' r = some (.lst rs) → rs.length = ds.length → AnsAll H' B ds rs → (∃ ps, ChartAt C H' p a b' B ps ∧ ChOk ps (afterQ B ds)) → Q (.ref r) H'
def spAnswers : Sp := fun vs H Q _ => ∃ (g l : Addr) (B : List Int) (xs : List V) (ds : List Deed), vs = [.ref g, .ref l] ∧ H g = some (.lst (B.map V.int)) ∧ B.length < 64 ∧ H l = some (.lst xs) ∧ Dds H xs ds ∧ ds.length < 63 ∧
  ∀ (r : Addr) (rs : List V) (H' : Hp), Same H H' → H' r = some (.lst rs) → rs.length = ds.length → AnsAll H' B ds rs → Q (.ref r) H'
def spStanding : Sp := fun vs H Q _ => ∃ (g l : Addr) (B : List Int) (xs : List V) (ds : List Deed), vs = [.ref g, .ref l] ∧ H g = some (.lst (B.map V.int)) ∧ B.length < 64 ∧ H l = some (.lst xs) ∧ Dds H xs ds ∧ ds.length < 63 ∧
  ∀ (r : Addr) (ys : List V) (ps : List (Int × Int)) (H' : Hp), Same H H' → H' r = some (.lst ys) → Prs H' ys ps → ChOk ps (afterQ B ds) → Q (.ref r) H'
end HW
namespace HW
theorem pull_perm {ps qs : List (Int × Int)} {p : Int × Int} (pm : ps.Perm qs) (nd : qs.Nodup) : (ps.filter fun q => decide (q ≠ p)).Perm (qs.erase p) := by
  have nd' : ps.Nodup := pm.nodup_iff.mpr nd
  have e : ps.filter (fun q => decide (q ≠ p)) = ps.erase p := by
    rw [nd'.erase_eq_filter]
    refine List.filter_congr fun x _ => ?_
    by_cases c : x = p
    · simp [c]
    · simp [c]
  rw [e]
  exact pm.erase p
end HW
namespace HW
open PySem PySem.Spec PyProof.Rows L2
def forBody : Stmt → List Stmt
  | .For _ _ b _ _ => b
  | _ => []
abbrev words7 : List V := [.str (Str.ofString "build"), .str (Str.ofString "build"), .str (Str.ofString "build"), .str (Str.ofString "build"), .str (Str.ofString "pull"), .str (Str.ofString "way"), .str (Str.ofString "way")]
theorem word7 (z : Int) : ∃ k : Kd, atI words7 (z % 7) = some (.str k.word) := by
  have hz : z % 7 = 0 ∨ z % 7 = 1 ∨ z % 7 = 2 ∨ z % 7 = 3 ∨ z % 7 = 4 ∨ z % 7 = 5 ∨ z % 7 = 6 := by omega
  rcases hz with e | e | e | e | e | e | e <;> rw [e]
  · exact ⟨.build, rfl⟩
  · exact ⟨.build, rfl⟩
  · exact ⟨.build, rfl⟩
  · exact ⟨.build, rfl⟩
  · exact ⟨.pull, rfl⟩
  · exact ⟨.way, rfl⟩
  · exact ⟨.way, rfl⟩
def spDeeds (K : PySem.W.Frag) : Sp := fun vs H Q _ => ∃ (c : Addr) (ns : List Int) (size hop : Int), vs = [.ref c, .int size, .int hop] ∧ SqL K H c (ns.map V.int) ∧ ns.length ≤ 63 ∧ 1 ≤ hop ∧ 1 ≤ size ∧
  ∀ (l : Addr) (xs : List V) (ds : List Deed) (H' : Hp), Same H H' → H l = none → H' l = some (.lst xs) → Dds H' xs ds → ds.length = ns.length → Q (.ref l) H'
def spStays : Sp := fun vs H Q _ => ∃ (a b : Addr) (xs : List V) (ds : List Deed), vs = [.ref a, .ref b] ∧ H a = some (.lst xs) ∧ H b = some (.lst xs) ∧ Dds H xs ds ∧ ds.length ≤ 1000 ∧ Q (.bl true) H
def spWord (K : PySem.W.Frag) : Sp := fun vs H Q _ => ∃ (pl bl t : Addr) (B : List Int) (ys : List V) (qs : List (Int × Int)) (d : Deed), vs = [.ref pl, .ref bl, .ref t] ∧ SqL K H pl (B.map V.int) ∧ SqL K H bl ys ∧ Prs H ys qs ∧ (∀ p ∈ qs, p.1 ≤ p.2) ∧ H t = some (.tup [.str d.1.word, .int d.2.1, .int d.2.2]) ∧
  ∀ H', Same H H' → Q (.str (out B qs d).text) H'
/-- a deed more -/
theorem dds_put {H : Hp} {l : Addr} {xs zs : List V} {ds : List Deed} (hl : H l = some (.lst zs)) (h : Dds H xs ds) (ys : List V) : Dds (upd H l (.lst ys)) xs ds := Paired.mapP h fun v q ⟨t, e1, e2⟩ => ⟨t, e1, by rw [upd_ne (ne_of e2 hl (by intro z; cases z))]; exact e2⟩
end HW
end
section
set_option Elab.async false
set_option linter.all false
set_option maxRecDepth 100000
namespace HW
open PySem PySem.Spec PyProof.Rows L2
/-! ### isinstance of an exception -/
/-- what is known of the class of an exception -/
structure ExcCls (K : PySem.W.Frag) (D : Addr) : Prop where
  ga : PySem.W.findIn K (.ref D) "__getattribute__" = some (some (.builtin "BaseException.__getattribute__"))
  gn : PySem.W.findIn K (.ref D) "__getattr__" = some none
  be : PySem.W.mroIn K D (.type "BaseException") = some true
  ci : PySem.W.hasDictIn K D = true
  ha : PySem.W.findIn K (.ref D) "__class__" = some (some (.builtin "object.__class__"))
  hm : PySem.W.mroIn K D (.type "object") = some true
  hn : PySem.W.specialIn K (.builtin "object.__class__") "__get__" = some (some (.builtin "getset_descriptor.__get__"))
  tk : PySem.W.takesIn K (.builtin "object.__class__") = some true
section
open PySem.W PySem.Calls Builtin Builtin.ObjectAttr Builtin.Getset_descriptor
variable {prog : Program} {w : World} {A : Around} {E : Value → Shared → Prop} {s : Shared} {K : Frag} {x D : Addr} {ox : Obj}
theorem look_type {M : Model} {h : Heap} (e : h.get? x = some ox) (c : ox.cls = .ref D) : Looks M h (typeOf (.ref x)) (.ref D) := c ▸ (Looks.ld e).andThen .now
theorem look_data {M : Model} {h : Heap} (X : K.In h) {name : Str} {g a : Value} (ha : findIn K (.ref D) name = some (some a)) (hn : specialIn K a "__get__" = some (some g)) (tk : takesIn K a = some true) : Looks M h (find (.ref x) (.ref D) name) (.bind g a) := by
  have L3 := looks_takesIn (M := M) X tk
  exact (looks_findIn (M := M) X ha).andThen ((show Looks M h (getOf (some a)) (some g) from looks_specialIn X hn).andThen ((show Looks M h (dataDescriptor? (some a) (some g)) (some (g, a)) from L3.andThen .now).andThen (Looks.tag .now)))
theorem exc_get {tp : Value} {R : Result → Shared → Prop} (X : K.In s.heap) (e : s.heap.get? x = some ox) (c : ox.cls = .ref D) (hm : mroIn K D (.type "object") = some true)
    (h : R (.ok (.ret (.ref D))) s) : codeAny (model prog w) A (.call (.builtin "getset_descriptor.__get__") ⟨[.builtin "object.__class__", .ref x, tp], []⟩) R s := by
  obtain ⟨hh, g, dr, t, os⟩ := s
  have L0 := look_type (M := model prog w) e c
  have L1 := looks_mroIn (M := model prog w) X hm
  refine codeAny_call_builtin KF.slot_gs.plain KF.entry_gs
    (KF.slot_gs.check _ _ _ _ _ _ _ _ KF.type_class (KF.args_gs _ _ _) ?_)
  unfold Builtin.«getset_descriptor.__get__» descrGet
  rw [dga_obj]
  refine wpAny_bind (wpAny_pure ?_)
  unfold descrGetter descrCheckInstance descrNameAndClass isInstance
  simp only [KF.owner_class]
  repeat lk
  refine ⟨Code.quiet_builtin _ (by decide +kernel),
    codeAny_builtin KF.entry_class ?_⟩
  unfold Builtin.«object.__class__» shownTypeOf
  repeat lk
  exact h
theorem exc_check {M : Model} {nameV : Value} {Q : Unit → Shared → Prop} (C : ExcCls K D) (X : K.In s.heap) (e : s.heap.get? x = some ox) (c : ox.cls = .ref D) (h : Q () s) : wpAny M A (checkBuiltinCall "BaseException.__getattribute__" ⟨[.ref x, nameV], []⟩) Q E s := by
  have e1 : builtinKind "BaseException.__getattribute__" = some .slot := by decide +kernel
  have e2 : splitId "BaseException.__getattribute__" = some ("BaseException", "__getattribute__") := by decide +kernel
  have e3 := F.args_bexc_ga (.ref x) nameV
  obtain ⟨hh, g, d, t, os⟩ := s
  have L0 := look_type (M := M) e c
  have L1 := looks_mroIn (M := M) X C.be
  simp only [checkBuiltinCall, e1, e2]
  refine wpAny_bind ?_
  unfold isInstance
  refine wpAny_bind (L0.at (L1.at ?_))
  repeat (first | assumption | wp_step)
theorem exc_entry {tk : Tok} {Q : Fin → Shared → Prop} (C : ExcCls K D) (X : K.In s.heap) (e : s.heap.get? x = some ox) (c : ox.cls = .ref D) (h : Q (.done (.ret (.ref D))) s) : wpAny (model prog w) A (Builtin.«object.__getattribute__» ⟨[.ref x, .str "__class__" tk], []⟩) Q E s := by
  obtain ⟨hh, g, d, t, os⟩ := s
  have L0 := look_type (M := model prog w) e c
  have L2 := look_data (M := model prog w) (x := x) X C.ha C.hn C.tk
  unfold Builtin.«object.__getattribute__»
  refine wpAny_bind (wpAny_pure ?_)
  dsimp only
  refine wpAny_bind (wpAny_pure ?_)
  refine wpAny_bind (L0.at (wpAny_bind (L2.at ?_)))
  show wpAny _ _ (holding [Value.builtin "object.__class__"] (call (.builtin "getset_descriptor.__get__") [.builtin "object.__class__", .ref x, .ref D]) >>= ret) _ _ _
  exact wpAny_bind (wpAny_holding (wpAny_call (exc_get (s := ⟨hh, g, d, t, os⟩) X e c C.hm (wpAny_pure h))))
theorem exc_class {Q : Option Value → Shared → Prop} (C : ExcCls K D) (X : K.In s.heap) (e : s.heap.get? x = some ox) (c : ox.cls = .ref D) (h : Q (some (.ref D)) { s with toks := s.toks + 1 }) : wpAny (model prog w) A (getAttr? (.ref x) "__class__") Q E s := by
  obtain ⟨hh, g, d, t, os⟩ := s
  have L0 := look_type (M := model prog w) e c
  have L1 := looks_findIn (M := model prog w) X C.ga
  have L3 := looks_findIn (M := model prog w) X C.gn
  unfold getAttr? getAttrBy? getAttrBy
  refine wpAny_bind (wpAny_mkText (wpAny_bind (wpAny_attempt (wpAny_holding (wpAny_bind
    (L0.at (wpAny_bind (L1.at ?_))))))))
  have e2 : (Value.builtin "BaseException.__getattribute__" == Value.builtin "object.__getattribute__") = false := by decide +kernel
  have e1 : (onTheHeap (Value.ref D) && Value.builtin "BaseException.__getattribute__" == Value.builtin "object.__getattribute__") = false := by rw [e2]; rfl
  dsimp only
  rw [if_neg (by rw [e1]; decide)]
  unfold getAttrByItsOwn
  refine wpAny_bind ?_
  unfold hookBefore
  rw [if_pos (show onTheHeap (Value.ref D) = true from rfl)]
  refine L3.at ?_
  refine wpAny_bind (wpAny_attempt (wpAny_holding ?_))
  unfold callGetattribute boundAndCalled
  rw [Bool.false_and, if_neg Bool.false_ne_true, F.excAttr_ValueError.ga.bind (.ref x)]
  refine wpAny_bind (wpAny_pure ?_)
  show wpAny _ _ (call (.builtin "BaseException.__getattribute__") [.ref x, .str "__class__" t]) _ _ _
  exact wpAny_call (codeAny_call_builtin F.excAttr_ValueError.ga.plain F.entry_bexc_ga (exc_check C X e c (exc_entry (s := ⟨hh, g, d, t + 1, os⟩) C X e c (wpAny_pure (wpAny_pure h)))))
theorem kitx_exc (C : ExcCls K D) (c : ox.cls = .ref D) : KitX K (.ref x) (.ref D) (fun h => h.get? x = some ox) where
  ty := fun _ _ _ e => look_type e c
  it := fun _ _ X _ => by
    obtain ⟨cdD, hcD, _⟩ := any_some C.ci
    unfold clsIn at hcD
    split at hcD
    · rename_i c' d' cd' sl' ho
      intro A' Q' E' s' k q
      unfold isType loadHead
      exact wpAny_bind (wpAny_loadPart (k _ _ (X _ _ ho)) (wpAny_pure q))
    · cases hcD
  ne := fun h tp dd its n sl X htp => by
    obtain ⟨cdD, hcD, _⟩ := any_some C.ci
    refine Bool.eq_false_iff.mpr fun q => ?_
    obtain rfl : D = tp := Value.ref.inj (beq_iff_eq.mp q)
    unfold clsIn at hcD
    split at hcD
    · rename_i c' d' cd' sl' ho
      cases (X _ _ ho).symm.trans htp
    · cases hcD
  ca := fun X e k => exc_class C X e c k
end
theorem kit_not {K : PySem.W.Frag} {x y : Value} (h1 : PySem.W.exmOne K x x = some true) (h2 : PySem.W.exmOne K x y = some false) : PySem.W.kitOne K x y = some false := by
  unfold PySem.W.kitOne
  split
  · rename_i e
    rw [← beq_iff_eq.mp e, h1] at h2
    cases h2
  · unfold PySem.W.exmOne at h2
    split at h2
    · exact h2
    · cases h2
/-- isinstance(e, C) in the suite that handles e, of the class at D -/
theorem call_isiD {X : Cx} {ea D : Addr} {oe : Obj} (hcl : oe.cls = .ref D) (C : ExcCls X.K D) : CallR (hand X ea oe) (.builtin "isinstance") (fun xs H Q => ∃ (cv : V) (c : Value) (b : Bool), xs = [.ref ea, cv] ∧ (∀ u, RelV cv u → u = c) ∧ PySem.W.kitOne X.K (.ref D) c = some b ∧ Q (.bl b) H) := by
  intro pins s σ H xs us Q I r h
  obtain ⟨cv, c, b, rfl, hc, e, q⟩ := h
  obtain ⟨u1, u2, rfl, r1, r2⟩ := r.two
  cases r1
  obtain rfl : u2 = c := hc _ r2
  have g := (I.pin (ea, oe) (by simp [hand])).1
  exact PySem.W.kia_one (kitx_exc C hcl) I.kIn g e (fun z => nomatch z) fun tk => ⟨.bl b, H, I.tok _, rfl, q⟩
/-! ### a method's call in a try -/
section
variable {X : Cx} {k : Nat} {f C : Addr} {fd : FuncData} {ps : List Str} {sp : Sp} {m : Str} {pos apos : Pos} {o e : Expr} {es : List Expr} {ta : TE} {t : TA}
theorem meth_ex {pins : List (Addr × Obj)} {σ : St} {H : Hp} {s : Shared} {Q : VK} {E : XK} {pl : Sem Bool} (he : PE X.nox o ta) (c : Cls X.K C) (hm : Meth X.K C m f) (F : FnOk X.prog X.w X.K X.mg X.base (CX1 X.prog X.w) k f fd ps sp) (hr : Room k X.A) (hb : Binds X.K fd ps []) (ha : PA X.nox (e :: es) t)
    (I : Inv X pins σ H s) (h : tMeth C m sp [] E ta t σ H Q) (hst : starEach (e :: es) X.env = (false, eval e X.env) :: starEach es X.env) (hpl : (backTo pos (starEach es X.env)).any (·.1) = false)
    (ht : eval (.Call (.Attribute o m apos) (e :: es) [] pos) X.env = (do
      let ov ← eval o X.env
      standAt apos.atName
      let (f, first) ← holding [ov] (getMethod ov m pl)
      callWith pos f first (backTo pos (starEach (e :: es) X.env)) (backToKw pos (keywordEach [] X.env)))) :
    wpAny (model X.prog X.w) X.A (eval (.Call (.Attribute o m apos) (e :: es) [] pos) X.env) (EP X pins σ Q) (fun e' s' => ∃ (H1 : Hp) (s1 : Shared), Inv X pins σ H1 s1 ∧ CX1 X.prog X.w X.stack H1 s1 E e' s') s := by
  refine PySem.W.methodCall_KW (pl := pl) (wpAny_mono (he pins s σ H _ (I.wish _) h) (fun u s1 ⟨x, H1, I1, rx, a, dx, fs, ex, ea, l, q⟩ => ?_) fun _ _ z => False.elim z) ht
  subst ex
  obtain rfl : u = Value.ref a := rx
  refine getmeth_ok I1.unwish ea c hm l ?_
  refine PySem.W.callWith_K (first := [.ref a]) (h₀ := X.base) I.ok.mod.kin hm.kp (wpAny_mono (ha pos pins s1 σ H1 _ I1 q) (fun us s2 ⟨vs, H2, I2, r, q2⟩ => ⟨I2.kIn, ?_⟩) fun _ _ z => False.elim z) hst hpl
  have J := I2.unwish
  have q2 : sp (V.ref a :: (vs ++ [])) H2 Q E := q2
  rw [List.append_nil] at q2
  have r2 : Vals (V.ref a :: vs) (Value.ref a :: us) := .cons rfl r
  have hl : (Value.ref a :: us).length = ps.length := by rw [← r2.length]; exact F.len _ _ _ _ q2
  refine wpAny_call (codeAny_mono (F.run X.A X.stack s2 H2 ⟨Value.ref a :: us, []⟩ (Value.ref a :: us) (V.ref a :: vs) Q E hr J.env0 (by have z := hb s2 (Value.ref a :: us) J.kIn (by rw [List.append_nil]; exact hl); rw [List.append_nil] at z; exact z) r2 q2) fun rr s' hq => ?_)
  cases rr with
  | error e => exact ⟨H2, s2, J, hq⟩
  | ok fl =>
    cases fl with
    | ret u => exact J.after hq
    | next => exact False.elim hq
    | brk => exact False.elim hq
    | cont => exact False.elim hq
variable {h₀ : ExceptHandler} {hs : List ExceptHandler} {th : TH} {k' : Nat} {f' : Addr} {fd' : FuncData} {ps' : List Str} {sp' : Sp} {m' : Str} {pos' apos' : Pos} {o' e' : Expr} {es' : List Expr} {ta' : TE} {t' : TA}
/-- try: if c: o.m(..) else: o.m(..) -/
theorem ps_tryIf {c : Expr} {tc : TT} {p1 p2 ipos tpos : Pos} {pl pl' : Sem Bool} (hc : PT X.nox c tc) (cl : Cls X.K C) (he : PE X.nox o ta) (hm : Meth X.K C m f) (F : FnOk X.prog X.w X.K X.mg X.base (CX1 X.prog X.w) k f fd ps sp) (hr : Room k X.A) (hb : Binds X.K fd ps []) (ha : PA X.nox (e :: es) t)
    (he' : PE X.nox o' ta') (hm' : Meth X.K C m' f') (F' : FnOk X.prog X.w X.K X.mg X.base (CX1 X.prog X.w) k' f' fd' ps' sp') (hr' : Room k' X.A) (hb' : Binds X.K fd' ps' []) (ha' : PA X.nox (e' :: es') t')
    (hst : X.stack = X.env :: X.outer) (hfm : X.env.frame = some X.env.locals) (hh : PH X (h₀ :: hs) th)
    (hsw : swapsWith (.Call (.Attribute o m apos) (e :: es) [] pos) none p1.line X.env = pure false := by rfl) (hsw' : swapsWith (.Call (.Attribute o' m' apos') (e' :: es') [] pos') none p2.line X.env = pure false := by rfl)
    (h1 : starEach (e :: es) X.env = (false, eval e X.env) :: starEach es X.env := by rfl) (h2 : (backTo pos (starEach es X.env)).any (·.1) = false := by rfl)
    (h3 : eval (.Call (.Attribute o m apos) (e :: es) [] pos) X.env = (do
      let ov ← eval o X.env
      standAt apos.atName
      let (f, first) ← holding [ov] (getMethod ov m pl)
      callWith pos f first (backTo pos (starEach (e :: es) X.env)) (backToKw pos (keywordEach [] X.env))) := by rfl)
    (h1' : starEach (e' :: es') X.env = (false, eval e' X.env) :: starEach es' X.env := by rfl) (h2' : (backTo pos' (starEach es' X.env)).any (·.1) = false := by rfl)
    (h3' : eval (.Call (.Attribute o' m' apos') (e' :: es') [] pos') X.env = (do
      let ov ← eval o' X.env
      standAt apos'.atName
      let (f, first) ← holding [ov] (getMethod ov m' pl')
      callWith pos' f first (backTo pos' (starEach (e' :: es') X.env)) (backToKw pos' (keywordEach [] X.env))) := by rfl) :
    PS X (.Try [.If c [.Expr (.Call (.Attribute o m apos) (e :: es) [] pos) p1] [.Expr (.Call (.Attribute o' m' apos') (e' :: es') [] pos') p2] ipos] (h₀ :: hs) [] [] tpos)
      (fun D σ H => tc σ H fun b H1 => if b = true then tMeth C m sp [] (catchE th D σ) ta t σ H1 (fun _ H2 => D.nx σ H2) else tMeth C m' sp' [] (catchE th D σ) ta' t' σ H1 (fun _ H2 => D.nx σ H2)) := by
  intro pins s σ H D I h
  refine wpAny_Try_except (wpAny_mono (wpAny_execs_cons (Q := fun f s1 => match f with | .next => wpAny (model X.prog X.w) X.A (execs [] X.env) (SP X pins D) X.xe s1 | f => SP X pins D f s1) (E := fun e' s' => ∃ (H1 : Hp) (s1 : Shared), Inv X pins σ H1 s1 ∧ CX1 X.prog X.w X.stack H1 s1 (catchE th D σ) e' s')
    (wpAny_If (wpAny_mono (hc pins s σ H _ (I.wish _) h) (fun d s1 ⟨H1, I1, q1⟩ => ?_) fun _ _ z => False.elim z))) (fun _ _ z => z) fun e' s' c => caught hst hfm hh c)
  have J := I1.unwish
  cases d with
  | true =>
    refine wpAny_execs_cons (wpAny_Expr_any (wpAny_mono (meth_ex he cl hm F hr hb ha J q1 h1 h2 h3) (fun v s2 ⟨z, H2, I2, r2, q2⟩ => ?_) fun _ _ z => z) J.quiet hsw)
    exact wpAny_execs_nil (wpAny_execs_nil (wpAny_execs_nil ⟨_, H2, I2, q2⟩))
  | false =>
    refine wpAny_execs_cons (wpAny_Expr_any (wpAny_mono (meth_ex he' cl hm' F' hr' hb' ha' J q1 h1' h2' h3') (fun v s2 ⟨z, H2, I2, r2, q2⟩ => ?_) fun _ _ z => z) J.quiet hsw')
    exact wpAny_execs_nil (wpAny_execs_nil (wpAny_execs_nil ⟨_, H2, I2, q2⟩))
end
def tryHs : Stmt → List ExceptHandler
  | .Try _ h _ _ _ => h
  | _ => []
/-! ### promises -/
def spHand (C : Addr) : Sp := fun vs H Q _ => ∃ (p a b t : Addr) (B : List Int) (ps qs : List (Int × Int)) (d : Deed), vs = [.ref p, .ref t] ∧ ChartAt C H p a b B ps ∧ ChOk ps qs ∧ Kept B qs ∧ qs.length < 63 ∧ H t = some (.tup [.str d.1.word, .int d.2.1, .int d.2.2]) ∧ d.1 ≠ .way ∧
  ∀ b' H', Behind C H H' p a b b' B (stepQ B qs d) → Q (.str (out B qs d).text) H'
def spPairs2 : Sp := fun vs H Q _ => ∃ (a b : Addr) (xs ys : List V) (ps : List (Int × Int)), vs = [.ref a, .ref b] ∧ H a = some (.lst xs) ∧ H b = some (.lst ys) ∧ Prs H xs ps ∧ Prs H ys ps ∧ ps.length ≤ 1000 ∧ Q (.bl true) H
theorem sorted_same : ∀ {ps qs : List (Int × Int)}, ps.Perm qs → ps.Pairwise ple → qs.Pairwise ple → ps = qs
  | [], qs, pm, _, _ => pm.nil_eq
  | p :: ps, [], pm, _, _ => absurd pm.length_eq (by simp)
  | p :: ps, q :: qs, pm, h1, h2 => by
    have e : p = q := by
      by_cases c : p = q
      · exact c
      · have m1 : p ∈ qs := (List.mem_cons.mp (pm.mem_iff.mp (List.mem_cons_self ..))).resolve_left c
        have m2 : q ∈ ps := (List.mem_cons.mp (pm.mem_iff.mpr (List.mem_cons_self ..))).resolve_left (Ne.symm c)
        exact plt_total ((List.pairwise_cons.mp h2).1 p m1) ((List.pairwise_cons.mp h1).1 q m2)
    subst e
    rw [sorted_same (List.Perm.cons_inv pm) (List.pairwise_cons.mp h1).2 (List.pairwise_cons.mp h2).2]
end HW
namespace HW
open PySem PySem.Spec PyProof.Rows L2
/-- the chart at p where all but another one stays -/
theorem ChartAt.other {C C' p p2 a b dx : Addr} {H H' : Hp} {B : List Int} {ps : List (Int × Int)} {fs : List (Str × V)} (c : ChartAt C H p a b B ps) (s : SameX p2 H H') (n : p ≠ p2) (h2 : H p2 = some (.ins C' dx fs)) : ChartAt C H' p a b B ps := by
  obtain ⟨⟨dy, h1⟩, h3, xs, h4, h5⟩ := c
  exact ⟨⟨dy, s _ _ h1 n⟩, s.lst h2 h3, xs, s.lst h2 h4, s.prs h2 h5⟩
end HW
end
namespace K08
open PySem L2 HW
def top (i : Nat) : Stmt := PySem.Challenge.pw_holmway_k08_what_stands.main.body.getD i (.Pass ⟨0, 0, 0, 0⟩)
abbrev sMaperror : Stmt := top 1
abbrev sNoplace : Stmt := top 2
abbrev sOneplace : Stmt := top 3
abbrev sStands : Stmt := top 4
abbrev sNobridge : Stmt := top 5
abbrev sCheckPlaces : Stmt := top 7
abbrev sNeighbours : Stmt := top 8
abbrev sLesserFirst : Stmt := top 9
abbrev sChart : Stmt := top 11
abbrev sChartInit : Stmt := inClass (top 11) 0
abbrev sChartBuild : Stmt := inClass (top 11) 1
abbrev sChartPull : Stmt := inClass (top 11) 2
abbrev sChartBridgeBetween : Stmt := inClass (top 11) 3
abbrev sWay : Stmt := top 13
abbrev sRoadsFrom : Stmt := top 14
abbrev sStanding : Stmt := top 16
abbrev sAnswersOn : Stmt := top 17
abbrev sAnswerOn : Stmt := top 18
abbrev sDoDeed : Stmt := top 19
abbrev sUpto : Stmt := top 21
abbrev sWhole : Stmt := top 22
abbrev sAt : Stmt := top 23
abbrev sCalled : Stmt := top 24
abbrev sPairs : Stmt := top 25
abbrev sNumbers : Stmt := top 26
abbrev sDeeds : Stmt := top 27
abbrev sStays : Stmt := top 28
abbrev sWord : Stmt := top 29
abbrev sByHand : Stmt := top 30
abbrev sLaw : Stmt := top 31
abbrev nCheckPlaces : List Str := ["places", "one", "other"]
abbrev pCheckPlaces : List Str := ["places", "one", "other"]
theorem scCheckPlaces : FnScope nCheckPlaces pCheckPlaces (defScope sCheckPlaces) := ⟨rfl, rfl, rfl, by decide +kernel, rfl, by decide +kernel, by decide +kernel⟩
abbrev nNeighbours : List Str := ["bridges", "found", "bridge"]
abbrev pNeighbours : List Str := ["bridges"]
theorem scNeighbours : FnScope nNeighbours pNeighbours (defScope sNeighbours) := ⟨rfl, rfl, rfl, by decide +kernel, rfl, by decide +kernel, by decide +kernel⟩
abbrev nLesserFirst : List Str := ["one", "other"]
abbrev pLesserFirst : List Str := ["one", "other"]
theorem scLesserFirst : FnScope nLesserFirst pLesserFirst (defScope sLesserFirst) := ⟨rfl, rfl, rfl, by decide +kernel, rfl, by decide +kernel, by decide +kernel⟩
abbrev nChartInit : List Str := ["self", "places"]
abbrev pChartInit : List Str := ["self", "places"]
theorem scChartInit : FnScope nChartInit pChartInit (defScope sChartInit) := ⟨rfl, rfl, rfl, by decide +kernel, rfl, by decide +kernel, by decide +kernel⟩
abbrev nChartBuild : List Str := ["self", "one", "other", "bridge"]
abbrev pChartBuild : List Str := ["self", "one", "other"]
theorem scChartBuild : FnScope nChartBuild pChartBuild (defScope sChartBuild) := ⟨rfl, rfl, rfl, by decide +kernel, rfl, by decide +kernel, by decide +kernel⟩
abbrev nChartPull : List Str := ["self", "one", "other", "bridge"]
abbrev pChartPull : List Str := ["self", "one", "other"]
theorem scChartPull : FnScope nChartPull pChartPull (defScope sChartPull) := ⟨rfl, rfl, rfl, by decide +kernel, rfl, by decide +kernel, by decide +kernel⟩
abbrev nChartBridgeBetween : List Str := ["self", "one", "other"]
abbrev pChartBridgeBetween : List Str := ["self", "one", "other"]
theorem scChartBridgeBetween : FnScope nChartBridgeBetween pChartBridgeBetween (defScope sChartBridgeBetween) := ⟨rfl, rfl, rfl, by decide +kernel, rfl, by decide +kernel, by decide +kernel⟩
abbrev nWay : List Str := ["places", "bridges", "one", "other", "roads"]
abbrev pWay : List Str := ["places", "bridges", "one", "other"]
theorem scWay : FnScope nWay pWay (defScope sWay) := ⟨rfl, rfl, rfl, by decide +kernel, rfl, by decide +kernel, by decide +kernel⟩
abbrev nRoadsFrom : List Str := ["start", "near", "roads", "row", "k", "here", "there"]
abbrev pRoadsFrom : List Str := ["start", "near"]
theorem scRoadsFrom : FnScope nRoadsFrom pRoadsFrom (defScope sRoadsFrom) := ⟨rfl, rfl, rfl, by decide +kernel, rfl, by decide +kernel, by decide +kernel⟩
abbrev nStanding : List Str := ["places", "deeds", "chart"]
abbrev pStanding : List Str := ["places", "deeds"]
theorem scStanding : FnScope nStanding pStanding (defScope sStanding) := ⟨rfl, rfl, rfl, by decide +kernel, rfl, by decide +kernel, by decide +kernel⟩
abbrev nAnswersOn : List Str := ["chart", "deeds", "found", "deed"]
abbrev pAnswersOn : List Str := ["chart", "deeds"]
theorem scAnswersOn : FnScope nAnswersOn pAnswersOn (defScope sAnswersOn) := ⟨rfl, rfl, rfl, by decide +kernel, rfl, by decide +kernel, by decide +kernel⟩
abbrev nAnswerOn : List Str := ["chart", "deed"]
abbrev pAnswerOn : List Str := ["chart", "deed"]
theorem scAnswerOn : FnScope nAnswerOn pAnswerOn (defScope sAnswerOn) := ⟨rfl, rfl, rfl, by decide +kernel, rfl, by decide +kernel, by decide +kernel⟩
abbrev nDoDeed : List Str := ["chart", "deed"]
abbrev pDoDeed : List Str := ["chart", "deed"]
theorem scDoDeed : FnScope nDoDeed pDoDeed (defScope sDoDeed) := ⟨rfl, rfl, rfl, by decide +kernel, rfl, by decide +kernel, by decide +kernel⟩
abbrev nUpto : List Str := ["_law_script", "_law_small", "_law_great"]
abbrev pUpto : List Str := ["_law_script", "_law_small", "_law_great"]
theorem scUpto : FnScope nUpto pUpto (defScope sUpto) := ⟨rfl, rfl, rfl, by decide +kernel, rfl, by decide +kernel, by decide +kernel⟩
abbrev nWhole : List Str := ["_law_found"]
abbrev pWhole : List Str := ["_law_found"]
theorem scWhole : FnScope nWhole pWhole (defScope sWhole) := ⟨rfl, rfl, rfl, by decide +kernel, rfl, by decide +kernel, by decide +kernel⟩
abbrev nAt : List Str := ["_law_script", "_law_k"]
abbrev pAt : List Str := ["_law_script", "_law_k"]
theorem scAt : FnScope nAt pAt (defScope sAt) := ⟨rfl, rfl, rfl, by decide +kernel, rfl, by decide +kernel, by decide +kernel⟩
abbrev nCalled : List Str := ["_law_k"]
abbrev pCalled : List Str := ["_law_k"]
theorem scCalled : FnScope nCalled pCalled (defScope sCalled) := ⟨rfl, rfl, rfl, by decide +kernel, rfl, by decide +kernel, by decide +kernel⟩
abbrev nPairs : List Str := ["_law_found", "_law_due", "_law_k"]
abbrev pPairs : List Str := ["_law_found", "_law_due"]
theorem scPairs : FnScope nPairs pPairs (defScope sPairs) := ⟨rfl, rfl, rfl, by decide +kernel, rfl, by decide +kernel, by decide +kernel⟩
abbrev nNumbers : List Str := ["_law_found", "_law_due", "_law_k"]
abbrev pNumbers : List Str := ["_law_found", "_law_due"]
theorem scNumbers : FnScope nNumbers pNumbers (defScope sNumbers) := ⟨rfl, rfl, rfl, by decide +kernel, rfl, by decide +kernel, by decide +kernel⟩
abbrev nDeeds : List Str := ["_law_cells", "_law_size", "_law_hop", "_law_words", "_law_asked", "_law_k", "_law_rest", "_law_one", "_law_other"]
abbrev pDeeds : List Str := ["_law_cells", "_law_size", "_law_hop"]
theorem scDeeds : FnScope nDeeds pDeeds (defScope sDeeds) := ⟨rfl, rfl, rfl, by decide +kernel, rfl, by decide +kernel, by decide +kernel⟩
abbrev nStays : List Str := ["_law_handed", "_law_asked", "_law_deed"]
abbrev pStays : List Str := ["_law_handed", "_law_asked"]
theorem scStays : FnScope nStays pStays (defScope sStays) := ⟨rfl, rfl, rfl, by decide +kernel, rfl, by decide +kernel, by decide +kernel⟩
abbrev nWord : List Str := ["_law_places", "_law_bridges", "_law_deed", "_law_here"]
abbrev pWord : List Str := ["_law_places", "_law_bridges", "_law_deed"]
theorem scWord : FnScope nWord pWord (defScope sWord) := ⟨rfl, rfl, rfl, by decide +kernel, rfl, by decide +kernel, by decide +kernel⟩
abbrev nByHand : List Str := ["_law_chart", "_law_deed", "_law_told", "e"]
abbrev pByHand : List Str := ["_law_chart", "_law_deed"]
theorem scByHand : FnScope nByHand pByHand (defScope sByHand) := ⟨rfl, rfl, rfl, by decide +kernel, rfl, by decide +kernel, by decide +kernel⟩
abbrev nLaw : List Str := ["_law_script", "_law_size", "_law_turn", "_law_places", "_law_hop", "_law_asked", "_law_handed", "_law_given", "_law_found", "_law_spare", "_law_chart", "_law_second", "_law_bridges", "_law_deed", "_law_told", "_law_due"]
abbrev pLaw : List Str := ["_law_script"]
theorem scLaw : FnScope nLaw pLaw (defScope sLaw) := ⟨rfl, rfl, rfl, by decide +kernel, rfl, by decide +kernel, by decide +kernel⟩
theorem nd3 : (["_law_k", "_law_size", "_law_turn"] : List Str).Nodup := by decide +kernel
def scK : Scope := { kind := .function, names := [(".0", .local), ("_law_k", .local), ("_law_called", .globalImplicit), ("_law_size", .free), ("_law_turn", .free)], isGenerator := false, isCoroutine := false, more := [] }
def scKept : Scope := { kind := .function, names := [(".0", .local), ("kept", .local), ("bridge", .free)], isGenerator := false, isCoroutine := false, more := [] }
theorem ndKept : (["kept", "bridge"] : List Str).Nodup := by decide +kernel
section
variable {P : Program} {w : World} {K : PySem.W.Frag} {mg : Str → Option Value} {base : Heap}
theorem ok_upto {f : Addr} {fd : FuncData} (F : Fun K "_law_upto" "_law_upto" sUpto f fd) (yLen : mg "len" = none) : FnOk P w K mg base CX0 1 f fd pUpto (spUpto K) := by
  refine F.ok scUpto (fun vs H Q E h => ?_) (fun cdv A outer s H vs Q E hr h => ?_)
  · obtain ⟨a, xs, sm, gr, rfl, _⟩ := h
    rfl
  obtain ⟨a, xs, sm, gr, rfl, hS, hl, q⟩ := h
  refine ⟨_, pss_cons (ps_if (pt_cmpR op_gt (pe_callB call_len_seq rfl yLen bt_len (pa_cons (pv 0) pa_nil)) pe_int (nomark _)) (pss_one (ps_ret (pv 2))) pss_nil) (pss_one (ps_ret (pv 1))), ?_⟩
  refine ⟨_, rfl, a, _, rfl, .inl hS, _, _, rfl, rfl, _, rfl, ?_⟩
  refine ite2 (fun c => ?_) (fun c => ⟨_, rfl, q⟩)
  have c' := of_decide_eq_true c
  exact absurd c' (by omega)
theorem ok_whole {f : Addr} {fd : FuncData} (F : Fun K "_law_whole" "_law_whole" sWhole f fd) (yIs : mg "isinstance" = none) (yInt : mg "int" = none) (yBool : mg "bool" = none) : FnOk P w K mg base CX0 1 f fd pWhole spWhole := by
  refine F.ok scWhole (fun vs H Q E h => ?_) (fun cdv A outer s H vs Q E hr h => ?_)
  · obtain ⟨i, rfl, _⟩ := h
    rfl
  obtain ⟨i, rfl, q⟩ := h
  refine ⟨_, pss_one (ps_ret (pe_and (pe_callB call_isi rfl yIs bt_isinstance (pa_cons (pv 0) (pa_cons (pe_bltn (v := .ty "int") rfl yInt bt_int rfl) pa_nil)))
    (pe_one (pe_not (pe_callB call_isi rfl yIs bt_isinstance (pa_cons (pv 0) (pa_cons (pe_bltn (v := .ty "bool") rfl yBool bt_bool rfl) pa_nil))))))), ?_⟩
  refine ⟨_, rfl, _, "int", _, true, rfl, .int i, rfl, _, rfl, iteT ?_⟩
  exact ⟨_, rfl, _, "bool", _, false, rfl, .int i, kit_int_bool, _, rfl, q⟩
theorem ok_at {f : Addr} {fd : FuncData} (F : Fun K "_law_at" "_law_at" sAt f fd) (yLen : mg "len" = none) : FnOk P w K mg base CX0 1 f fd pAt (spAt K) := by
  refine F.ok scAt (fun vs H Q E h => ?_) (fun cdv A outer s H vs Q E hr h => ?_)
  · obtain ⟨a, ns, k, rfl, _⟩ := h
    rfl
  obtain ⟨a, ns, k, rfl, hS, h0, q⟩ := h
  have hl : (ns.map V.int).length = ns.length := List.length_map _
  refine ⟨_, pss_cons (ps_if (pt_cmpR op_lt (pv 1) (pe_callB call_len_seq rfl yLen bt_len (pa_cons (pv 0) pa_nil)) (nomark _)) (pss_one (ps_ret (pe_ix ix_list (pv 0) (pv 1) (fun _ _ => rfl)))) pss_nil) (pss_one (ps_ret pe_int)), ?_⟩
  refine ⟨_, rfl, _, rfl, a, _, rfl, .inl hS, _, _, rfl, rfl, _, rfl, ?_⟩
  refine ite2 (fun c => ?_) (fun c => ?_)
  · have c' : k < (((ns.map V.int).length : Nat) : Int) := of_decide_eq_true c
    rw [hl] at c'
    exact ⟨_, rfl, _, rfl, a, _, _, _, rfl, rfl, hS, atI_ints h0 c', q⟩
  · have c' : ¬ k < (((ns.map V.int).length : Nat) : Int) := fun z => c (decide_eq_true z)
    rw [hl] at c'
    have e : ns.getD k.toNat 0 = 0 := by
      rw [List.getD_eq_getElem?_getD, List.getElem?_eq_none (by omega)]
      rfl
    rw [e] at q
    exact q
theorem ok_called {f : Addr} {fd : FuncData} (F : Fun K "_law_called" "_law_called" sCalled f fd) : FnOk P w K mg base CX0 1 f fd pCalled spCalled := by
  refine F.ok scCalled (fun vs H Q E h => ?_) (fun cdv A outer s H vs Q E hr h => ?_)
  · obtain ⟨k, rfl, _⟩ := h
    rfl
  obtain ⟨k, rfl, h0, q⟩ := h
  refine ⟨_, pss_cons (ps_if (pt_cmpR op_eq (pv 0) pe_int (nomark _)) (pss_one (ps_ret (pe_op op_pow pe_int pe_int))) pss_nil)
    (pss_one (ps_ret (pe_op op_sub (pe_op op_sub pe_int (pe_op op_mul pe_int (pe_op op_fdiv (pv 0) pe_int))) (pe_op op_mod (pv 0) pe_int)))), ?_⟩
  refine ⟨_, rfl, rfl, _, rfl, ?_⟩
  refine ite2 (fun c => ?_) (fun c => ?_)
  · have c' : k = 0 := dec_of (c := True) c
    refine ⟨_, _, rfl, rfl, ⟨by decide, by decide, by decide⟩, ?_⟩
    have e : called k = 10 ^ (20 : Int).toNat := by rw [c']; rfl
    rw [e] at q
    exact q
  · have c' : k ≠ 0 := dec_not c
    have e : called k = 6 - 4 * (k / 2) - k % 2 := by unfold called; rw [if_neg c']
    rw [e] at q
    exact ⟨_, rfl, _, _, rfl, rfl, ⟨by decide, by decide⟩, _, _, rfl, rfl, .inl ⟨by decide, by decide⟩, _, _, rfl, rfl, _, rfl, _, _, rfl, rfl, (by show (0 : Int) < 2; decide), _, _, rfl, rfl, q⟩
theorem ok_numbers {f : Addr} {fd : FuncData} (F : Fun K "_law_numbers" "_law_numbers" sNumbers f fd) (yIs : mg "isinstance" = none) (yList : mg "list" = none) (yLen : mg "len" = none) (yRange : mg "range" = none)
    (hW : Has P w K mg base "_law_whole" ["_law_found"] 1 spWhole) : FnOk P w K mg base CX0 2 f fd pNumbers (spNumbers K) := by
  obtain ⟨fW, fdW, GW, bW, kW, mW⟩ := hW
  refine F.ok scNumbers (fun vs H Q E h => ?_) (fun cdv A outer s H vs Q E hr h => ?_)
  · obtain ⟨a, b, ns, rfl, _⟩ := h
    rfl
  obtain ⟨a, b, ns, rfl, ha, hb, hn, q⟩ := h
  have hl : (ns.map V.int).length = ns.length := List.length_map _
  refine ⟨_, pss_cons (ps_if (PW.pt (pw_or (pt_not (pt_val (pe_callB call_isi rfl yIs bt_isinstance (pa_cons (pv 0) (pa_cons (pe_bltn (v := .ty "list") rfl yList bt_list rfl) pa_nil)))))
      (pw_or1 (pt_cmpR op_ne (pe_callB call_len_seq rfl yLen bt_len (pa_cons (pv 0) pa_nil)) (pe_callB call_len_seq rfl yLen bt_len (pa_cons (pv 1) pa_nil)) (nomark _))))) (pss_one (ps_ret pe_bl)) pss_nil)
    (pss_cons (ps_for PassesOwn.never rfl (pi_range1 rfl yRange (pa_cons (pe_callB call_len_seq rfl yLen bt_len (pa_cons (pv 1) pa_nil)) pa_nil)) (pg_name (i := 2) scNumbers.nd rfl (Or.inl rfl))
      (pss_one (ps_if (PW.pt (pw_or (pt_not (pt_val (pe_call GW hr rfl mW kW bW .nil pass0 (pa_cons (pe_ix ix_list (pv 0) (pv 2) (fun _ _ => rfl)) pa_nil))))
        (pw_or1 (pt_cmpR op_ne (pe_ix ix_list (pv 0) (pv 2) (fun _ _ => rfl)) (pe_ix ix_list (pv 1) (pv 2) (fun _ _ => rfl)) (nomark _))))) (pss_one (ps_ret pe_bl)) pss_nil)))
    (pss_one (ps_ret pe_bl))), ?_⟩
  refine ⟨_, rfl, _, "list", _, true, rfl, .lst ha, rfl, _, rfl, iteF ?_⟩
  refine ⟨_, rfl, a, _, rfl, .inl (SqL.of ha), _, rfl, b, _, rfl, .inl hb, rfl, _, rfl, ?_⟩
  refine iteNS rfl ?_
  refine ⟨_, rfl, b, _, rfl, .inl hb, _, rfl, (by omega), (by rw [hl]; omega), for_range (lo := 0) (n := ((((ns.map V.int).length : Nat) : Int)).toNat) (fun i σ H2 => ∃ v, σ = [some (.ref a), some (.ref b), v] ∧ H2 = H) ⟨none, rfl, rfl⟩ ?_ ?_⟩
  · rintro i σ H2 hi ⟨v, rfl, rfl⟩
    have hi' : i < ns.length := by rw [hl] at hi; omega
    have g : atI (ns.map V.int) (0 + (i : Int)) = some (.int (ns.getD (0 + (i : Int)).toNat 0)) := atI_ints (by omega) (by omega)
    refine ⟨_, rfl, _, rfl, a, _, _, _, rfl, rfl, SqL.of ha, g, _, rfl, _, rfl, iteF ?_⟩
    refine ⟨_, rfl, _, rfl, a, _, _, _, rfl, rfl, SqL.of ha, g, _, rfl, _, rfl, b, _, _, _, rfl, rfl, hb, g, rfl, _, rfl, ?_⟩
    refine iteNS rfl ?_
    exact ⟨_, rfl, rfl⟩
  · rintro σ H2 ⟨v, rfl, rfl⟩
    exact q
theorem ok_neighbours {f : Addr} {fd : FuncData} (F : Fun K "neighbours" "neighbours" sNeighbours f fd) : FnOk P w K mg base CX0 1 f fd pNeighbours (spNeighbours K) := by
  refine F.ok scNeighbours (fun vs H Q E h => ?_) (fun cdv A outer s H vs Q E hr h => ?_)
  · obtain ⟨b, xs, ps, rfl, _⟩ := h
    rfl
  obtain ⟨b, xs, ps, rfl, hS, hP, hl, k⟩ := h
  have hxl := hP.length
  refine ⟨_, pss_cons (ps_set (i := 1) scNeighbours.nd rfl (Or.inl rfl) pe_dnewK)
    (pss_cons (ps_for PassesOwn.never rfl (pi_list (pv 0)) (pg_name (i := 2) scNeighbours.nd rfl (Or.inl rfl))
      (pss_cons (ps_expr (pe_bm PySem.F.plainAttrs_list PySem.F.slot_list_append PySem.F.type_list_append mt_append (pe_bm PySem.F.plainAttrs_dict PySem.F.slot_dict_setdefault PySem.F.type_dict_setdefault mt_setdefault (pv 1) (pa_cons (pe_ix ix_tup (pv 2) pe_int (fun _ _ => rfl)) (pa_cons (pe_lst pa_nil) pa_nil))) (pa_cons (pe_ix ix_tup (pv 2) pe_int (fun _ _ => rfl)) pa_nil)))
      (pss_one (ps_expr (pe_bm PySem.F.plainAttrs_list PySem.F.slot_list_append PySem.F.type_list_append mt_append (pe_bm PySem.F.plainAttrs_dict PySem.F.slot_dict_setdefault PySem.F.type_dict_setdefault mt_setdefault (pv 1) (pa_cons (pe_ix ix_tup (pv 2) pe_int (fun _ _ => rfl)) (pa_cons (pe_lst pa_nil) pa_nil))) (pa_cons (pe_ix ix_tup (pv 2) pe_int (fun _ _ => rfl)) pa_nil))))))
    (pss_one (ps_ret (pv 1)))), ?_⟩
  refine fun d hd => ?_
  have s1 : Same H (upd H d (.dK [])) := same_new hd _
  refine ⟨_, rfl, b, rfl, ⟨_, s1.seq hS⟩, for_list (K := K) (a := b) (xs := xs) (fun i σ H2 => ∃ v kvs, σ = [some (.ref b), some (.ref d), v] ∧ NbI H H2 d kvs (nbs (ps.take i)) (2 * i))
    ⟨none, [], rfl, s1, hd, upd_same, Nat.le_refl _, fun x => .inl ⟨rfl, rfl⟩, fun x y a h => by cases h⟩ (fun i σ H2 _ ⟨_, _, _, I⟩ => I.same.seq hS) ?_ ?_⟩
  · rintro i y σ H2 hi ⟨v, kvs, rfl, I⟩
    obtain ⟨b1, hb1, c, rfl, hc⟩ := hP.get hi
    have hil : i < ps.length := (List.getElem?_eq_some_iff.mp hb1).1
    have tl : (ps.take i).length ≤ 1000 := by rw [List.length_take]; omega
    have nl : ∀ z, (nbs (ps.take i) z).length ≤ 2000 := fun z => by have := nbs_len (ps.take i) z; omega
    dsimp only [gName, tSeq, tDrop]
    refine half_run I (by omega) (by have := nl b1.1; omega) (fun H' Q' q => ⟨_, rfl, q⟩) (fun H' Q' s q => ⟨_, rfl, c, _, _, _, rfl, rfl, SqT.of (s _ _ hc), rfl, q⟩) (fun H' Q' s q => ⟨_, rfl, c, _, _, _, rfl, rfl, SqT.of (s _ _ hc), rfl, q⟩) fun H3 kvs3 I3 => ?_
    refine half_run I3 (by omega) (by have := addN_len (x := b1.1) (z := b1.2) nl b1.2; omega) (fun H' Q' q => ⟨_, rfl, q⟩) (fun H' Q' s q => ⟨_, rfl, c, _, _, _, rfl, rfl, SqT.of (s _ _ hc), rfl, q⟩) (fun H' Q' s q => ⟨_, rfl, c, _, _, _, rfl, rfl, SqT.of (s _ _ hc), rfl, q⟩) fun H4 kvs4 I4 => ?_
    refine ⟨_, kvs4, rfl, ?_⟩
    have e : 2 * (i + 1) = 2 * i + 1 + 1 := by omega
    rw [take_snoc hb1, nbs_snoc, e]
    exact I4
  · rintro σ H2 ⟨v, kvs, rfl, I⟩
    rw [hxl, List.take_length] at I
    exact ⟨_, rfl, k d H2 I.same I.near⟩
theorem ok_roads_from {f : Addr} {fd : FuncData} (F : Fun K "roads_from" "roads_from" sRoadsFrom f fd) (yLen : mg "len" = none) : FnOk P w K mg base CX0 1 f fd pRoadsFrom spRoadsFrom := by
  refine F.ok scRoadsFrom (fun vs H Q E h => ?_) (fun cdv A outer s H vs Q E hr h => ?_)
  · obtain ⟨start, nr, ps, B, rfl, _⟩ := h
    rfl
  obtain ⟨start, nr, ps, B, rfl, hN, hl, hB, hsB, hpB, q⟩ := h
  have hu := hu_of hr
  refine ⟨_, pss_cons (ps_set (i := 2) scRoadsFrom.nd rfl (Or.inl rfl) (pe_disp (pps_cons (pv 0) (pe_lst (pa_cons (pv 0) pa_nil)) pps_nil) rfl rfl (by intro z; cases z) (by decide)))
    (pss_cons (ps_set (i := 3) scRoadsFrom.nd rfl (Or.inl rfl) (pe_lst (pa_cons (pv 0) pa_nil)))
    (pss_cons (ps_set (i := 4) scRoadsFrom.nd rfl (Or.inl rfl) pe_int)
    (pss_cons (ps_while PassesOwn.never (pt_cmpR op_lt (pv 4) (pe_callB call_len_seq rfl yLen bt_len (pa_cons (pv 3) pa_nil)) (nomark _))
      (pss_cons (ps_set (i := 5) scRoadsFrom.nd rfl (Or.inl rfl) (pe_ix ix_list (pv 3) (pv 4) (fun _ _ => rfl)))
      (pss_cons (ps_for PassesOwn.never rfl (pi_list (pe_bm PySem.F.plainAttrs_dict PySem.F.slot_dict_get PySem.F.type_dict_get (mt_dget2 hu) (pv 1) (pa_cons (pv 5) (pa_cons (pe_lst pa_nil) pa_nil)))) (pg_name (i := 6) scRoadsFrom.nd rfl (Or.inl rfl))
        (pss_one (ps_if (pt_cmp (pc_dnotin hu (pv 6) (pv 2)))
          (pss_cons (ps_dput hu (pv 2) (pv 6) (pe_op op_cat (pe_dget hu (pv 2) (pv 5) (fun _ _ => rfl)) (pe_lst (pa_cons (pv 6) pa_nil))) rfl)
          (pss_one (ps_expr (pe_bm PySem.F.plainAttrs_list PySem.F.slot_list_append PySem.F.type_list_append mt_append (pv 3) (pa_cons (pv 6) pa_nil)))))
          pss_nil)))
      (pss_one (ps_aug (i := 4) scRoadsFrom.nd rfl (Or.inl rfl) pe_int ip_add)))))
    (pss_one (ps_ret (pv 2)))))), ?_⟩
  refine fun rd hrd => ⟨_, rfl, _, rfl, (by show 1 ≤ sizeLine; decide), fun l0 hl0 => ?_⟩
  have hdl : rd ≠ l0 := fun e => by rw [← e, upd_same] at hl0; cases hl0
  refine ⟨by rw [upd_ne hdl, upd_same], [(Sum.inl start, .ref l0)], rfl, (by show 1 ≤ 15; decide), ?_⟩
  refine ⟨_, rfl, (by show 1 ≤ sizeLine; decide), fun rw hrw => ?_⟩
  have I0 : BfsI ps start B H (upd (upd (upd (upd H rd (.dK [])) l0 (.lst [.int start])) rd (.dK [(Sum.inl start, .ref l0)])) rw (.lst [.int start])) rd rw [(Sum.inl start, .ref l0)] [start] := bfs_start hrd hl0 hrw hsB
  refine while_by (fun σ H2 => ∃ (kvs : List (Key × V)) (row : List Int) (k : Nat) (v5 v6 : Option V), σ = [some (.int start), some (.ref nr), some (.ref rd), some (.ref rw), some (.int k), v5, v6] ∧ BfsI ps start B H H2 rd rw kvs row ∧ k ≤ row.length ∧ ShutTo ps row k) (fun σ _ => muK σ)
    ⟨_, _, 0, none, none, rfl, I0, Nat.zero_le _, fun i hi => absurd hi (Nat.not_lt_zero i)⟩ ?_ ?_
  · rintro σ H2 ⟨kvs, row, k, v5, v6, rfl, I, hk, sh⟩
    have hrl : (row.map V.int).length = row.length := List.length_map _
    have hlen := I.len
    refine ⟨_, rfl, _, rfl, rw, _, rfl, .inl (SqL.of I.rat), _, _, rfl, rfl, _, rfl, ?_⟩
    refine ite2 (fun c => ?_) (fun c => ?_)
    · have c' : (k : Int) < (((row.map V.int).length : Nat) : Int) := of_decide_eq_true c
      rw [hrl] at c'
      have hkl : k < row.length := by omega
      have hx : row[k]? = some row[k] := List.getElem?_eq_getElem hkl
      generalize row[k] = x at hx
      have g : atI (row.map V.int) (k : Int) = some (.int x) := atI_nat (by rw [List.getElem?_map, hx]; rfl)
      refine ⟨_, rfl, _, rfl, rw, _, _, _, rfl, rfl, SqL.of I.rat, g, ?_⟩
      obtain ⟨nk, hnr, hnx⟩ := I.same.near hN
      refine ⟨_, rfl, .inr (.inr (.inl ⟨rfl, .inl ⟨_, hnr⟩⟩)), _, rfl, (by show 0 ≤ sizeLine; decide), fun e he => ⟨nr, nk, Sum.inl x, .ref e, rfl, rfl, same_new he _ _ _ hnr, ?_⟩⟩
      have I3 := I.up (same_new he (.lst []))
      obtain ⟨na, ena, hla, hn1, hn2⟩ : ∃ na, (valV nk (Sum.inl x)).getD (.ref e) = .ref na ∧ (upd H2 e (.lst [])) na = some (.lst ((nbs ps x).map V.int)) ∧ na ≠ rd ∧ na ≠ rw := by
        rcases hnx x with ⟨h1, h2⟩ | ⟨na, h1, h2⟩
        · refine ⟨e, by rw [h2]; rfl, by rw [upd_same, h1]; rfl, fun z => ?_, fun z => ?_⟩
          · exact ne_of_none I.dat he z.symm
          · exact ne_of_none I.rat he z.symm
        · have hna := same_new he (.lst []) _ _ h2
          refine ⟨na, by rw [h1]; rfl, hna, ne_of h2 I.dat (by intro z; cases z), ?_⟩
          obtain ⟨kv0, g1, g2⟩ := hN
          have e1 : kv0 = nk := by
            have z := (I.same _ _ g1).symm.trans hnr
            injection z with z
            injection z
          subst e1
          rcases g2 x with ⟨_, g3⟩ | ⟨a, g3, g4⟩
          · rw [h1] at g3
            cases g3
          · rw [h1] at g3
            have e2 : na = a := by injection g3 with g3; injection g3
            rw [e2]
            exact ne_of_none g4 I.newR
      generalize upd H2 e (.lst []) = H3 at I3 hla
      refine ⟨na, ena, ⟨_, SqL.of hla⟩, for_list (K := K) (a := na) (xs := (nbs ps x).map V.int) (fun i σ H4 => ∃ (kvs : List (Key × V)) (row : List Int) (v6 : Option V), σ = [some (.int start), some (.ref nr), some (.ref rd), some (.ref rw), some (.int k), some (.int x), v6] ∧ BfsI ps start B H H4 rd rw kvs row ∧ row[k]? = some x ∧ ShutTo ps row k ∧ (∀ z ∈ (nbs ps x).take i, z ∈ row) ∧ H4 na = some (.lst ((nbs ps x).map V.int)))
        ⟨kvs, row, _, rfl, I3, hx, sh, by simp, hla⟩ (fun i σ H4 _ ⟨_, _, _, _, _, _, _, _, h⟩ => SqL.of h) ?_ ?_⟩
      · clear I I3 hla hlen hrl hk sh c c' hkl hx g he ena hnx hnr
        rintro i y σ H4 hi ⟨kvs, row, v6, rfl, I, hx, sh, hin, hla⟩
        obtain ⟨z, rfl, hz⟩ := ints_get hi
        have hlen := I.len
        have hkl : k < row.length := (List.getElem?_eq_some_iff.mp hx).1
        have hadj : adj ps x z := (nbs_mem ps x z).mp (List.mem_of_getElem? hz)
        refine ⟨_, rfl, _, rfl, rd, _, rfl, DGet.k (k := Sum.inl z) I.dat, _, rfl, ?_⟩
        refine ite2 (fun c => ?_) (fun c => ?_)
        · rw [I.in_ z] at c
          have hzr : z ∉ row := fun m => by rw [decide_eq_true m] at c; cases c
          obtain ⟨a, l, q1, q2, q3, q4, q5⟩ := I.road x (List.mem_of_getElem? hx)
          have ll : l.length ≤ row.length := nodup_len q4.nodup q5
          have dg : DGet H4 rd (kV (Sum.inl x)) (some (.ref a)) := by rw [← q1]; exact DGet.k I.dat
          have ez := sizeLine_eq
          refine ⟨_, rfl, _, rfl, rd, .ref a, rfl, dg, _, rfl, (by show 1 ≤ sizeLine; decide), fun t ht => ⟨a, t, _, _, rfl, rfl, same_new ht _ _ _ q2, upd_same, ?_, fun p hp => ?_⟩⟩
          · rw [List.length_map]
            show l.length + 1 ≤ sizeLine
            omega
          have hd2 : (upd (upd H4 t (.lst [.int z])) p (.lst (l.map V.int ++ [.int z]))) rd = some (.dK kvs) := same_new hp _ _ _ (same_new ht _ _ _ I.dat)
          have hk2 : kvs.length < sizeLine := by rw [I.klen]; omega
          refine ⟨_, rfl, _, rfl, rd, _, rfl, DPut.k (k := Sum.inl z) hd2 hk2, ?_⟩
          have hr2 : (upd (upd (upd H4 t (.lst [.int z])) p (.lst (l.map V.int ++ [.int z]))) rd (.dK (putK kvs (Sum.inl z) (.ref p)))) rw = some (.lst (row.map V.int)) := by
            rw [upd_ne (Ne.symm I.ne)]
            exact same_new hp _ _ _ (same_new ht _ _ _ I.rat)
          refine ⟨_, rfl, .inl ⟨rfl, _, SqL.of hr2⟩, _, rfl, rw, _, _, rfl, rfl, hr2, (by rw [List.length_map]; omega), ?_⟩
          refine ⟨_, row ++ [z], _, rfl, bfs_step I hx hadj hzr (adj_in hpB hadj) q2 q4 q5 ht hp, by rw [List.getElem?_append_left hkl]; exact hx, shutTo_snoc sh (by omega), fun u hu => ?_, bfs_keep ht hp hla hn1 hn2⟩
          rw [take_snoc hz] at hu
          rcases List.mem_append.mp hu with hu | hu
          · exact List.mem_append_left _ (hin u hu)
          · exact List.mem_append_right _ hu
        · rw [I.in_ z] at c
          have hzr : z ∈ row := by
            by_cases m : z ∈ row
            · exact m
            · exact absurd (by rw [decide_eq_false m]; rfl) c
          refine ⟨kvs, row, _, rfl, I, hx, sh, fun u hu => ?_, hla⟩
          rw [take_snoc hz] at hu
          rcases List.mem_append.mp hu with hu | hu
          · exact hin u hu
          · rw [List.mem_singleton] at hu
            rw [hu]
            exact hzr
      · rintro σ H4 ⟨kvs, row, v6, rfl, I, hx, sh, hin, hla⟩
        have hkl : k < row.length := (List.getElem?_eq_some_iff.mp hx).1
        have hlen := I.len
        rw [List.length_map, List.take_length] at hin
        refine ⟨_, rfl, _, _, rfl, rfl, ⟨kvs, row, k + 1, _, _, rfl, I, by omega, fun i hi u hu z a => ?_⟩, ?_⟩
        · by_cases ci : i < k
          · exact sh i ci u hu z a
          · have ei : i = k := by omega
            subst ei
            rw [hx] at hu
            have eu : x = u := Option.some.inj hu
            subst eu
            exact hin z ((nbs_mem ps x z).mpr a)
        · show (64 - ((k : Int) + 1)).toNat < (64 - (k : Int)).toNat
          omega
    · have c' : ¬ (k : Int) < (((row.map V.int).length : Nat) : Int) := fun z => c (decide_eq_true z)
      rw [hrl] at c'
      have ek : k = row.length := by omega
      subst ek
      exact ⟨_, rfl, q rd H2 kvs row I.same I.newD (I.done sh)⟩
  · rintro σ H2 Q1 Q2 hq ⟨v, h1, v', h2, a, xs, e, hs, i, j, e1, e2, k, e3, q⟩
    exact ⟨v, h1, v', h2, a, xs, e, hs, i, j, e1, e2, k, e3, hq _ _ q⟩
theorem ok_check_places {f C : Addr} {fd : FuncData} (F : Fun K "check_places" "check_places" sCheckPlaces f fd) (mC : mg "NoPlace" = some (.ref C)) (xC : PySem.W.excIn K C valueErrors "ValueError.__new__" = true) : FnOk P w K mg base (CX1 P w) 1 f fd pCheckPlaces (spCheck K C) := by
  refine okX F scCheckPlaces (fun vs H Q E h => ?_) (fun cdv A outer s H vs Q E hr h => ?_)
  · obtain ⟨a, B, one, other, rfl, _⟩ := h
    rfl
  obtain ⟨a, B, one, other, rfl, hA, q, qE⟩ := h
  refine ⟨_, pss_one (ps_if (PW.pt (pw_or (pt_cmpR op_notIn_seq (pv 1) (pv 0) rfl) (pw_or1 (pt_cmpR op_notIn_seq (pv 2) (pv 0) rfl)))) (pss_one (ps_raise rfl mC xC rfl (pa_cons pe_str pa_nil) throwsX)) pss_nil), ?_⟩
  refine ifs_or (b1 := !decide (one ∈ B)) (b2 := !decide (other ∈ B)) (fun Q q => ⟨_, rfl, _, rfl, a, _, rfl, .inl hA, rfl, flat_ints B, _, rfl, ?_⟩) (fun Q q => ⟨_, rfl, _, rfl, a, _, rfl, .inl hA, rfl, flat_ints B, _, rfl, ?_⟩) ?_
  · rw [notIn_dec (K := K)]
    exact q
  · rw [notIn_dec (K := K)]
    exact q
  refine ite2 (fun c => ⟨(by show 1 ≤ sizeLine; decide), qE fun z => ?_⟩) (fun c => ?_)
  · rw [decide_eq_true z.1, decide_eq_true z.2] at c
    cases c
  · have c1 : one ∈ B := by
      by_cases z : one ∈ B
      · exact z
      · exact absurd (by rw [decide_eq_false z]; rfl) c
    have c2 : other ∈ B := by
      by_cases z : other ∈ B
      · exact z
      · exact absurd (by rw [decide_eq_false z]; simp) c
    exact q c1 c2
theorem ok_way {f C : Addr} {fd : FuncData} (F : Fun K "way" "way" sWay f fd) (ySorted : mg "sorted" = none) (hC : HasX P w K mg base "check_places" ["places", "one", "other"] 1 (spCheck K C)) (hN : Has P w K mg base "neighbours" ["bridges"] 1 (spNeighbours K)) (hR : Has P w K mg base "roads_from" ["start", "near"] 1 spRoadsFrom) :
    FnOk P w K mg base (CX1 P w) 2 f fd pWay (spWay K C) := by
  obtain ⟨fC, fdC, GC, bC, kC, mC⟩ := hC
  obtain ⟨fN, fdN, GN, bN, kN, mN⟩ := hN
  obtain ⟨fR, fdR, GR, bR, kR, mR⟩ := hR
  refine okX F scWay (fun vs H Q E h => ?_) (fun cdv A outer s H vs Q E hr h => ?_)
  · obtain ⟨a, b, B, xs, ps, one, other, rfl, _⟩ := h
    rfl
  obtain ⟨a, b, B, xs, ps, one, other, rfl, hA, hS, hP, hl, hB, hpB, qE, q⟩ := h
  have hu := hu_of hr
  refine ⟨_, pss_cons (ps_expr (pe_call GC hr rfl mC kC bC .nil passX (pa_cons (pv 0) (pa_cons (pv 2) (pa_cons (pv 3) pa_nil)))))
    (pss_cons (ps_set (i := 4) scWay.nd rfl (Or.inl rfl) (pe_call GR hr rfl mR kR bR .nil pass0 (pa_cons (pv 2) (pa_cons (pe_call GN hr rfl mN kN bN .nil pass0 (pa_cons (pv 1) pa_nil)) pa_nil))))
    (pss_cons (ps_if (pt_cmp (pc_din hu (pv 3) (pv 4))) (pss_one (ps_ret (pe_tup (pa_cons pe_str (pa_cons (pe_dget hu (pv 4) (pv 3) (fun _ _ => rfl)) pa_nil))))) pss_nil)
    (pss_one (ps_ret (pe_tup (pa_cons pe_str (pa_cons (pe_callB (call_sortedDict rfl) rfl ySorted bt_sorted (pa_cons (pv 4) pa_nil)) pa_nil))))))), ?_⟩
  refine ⟨_, rfl, _, rfl, _, rfl, a, B, one, other, rfl, hA, fun h1 h2 => ?_, qE⟩
  refine ⟨_, rfl, _, rfl, b, xs, ps, rfl, hS, hP, hl, fun nr H1 s1 hNr => ?_⟩
  refine ⟨one, nr, ps, B, rfl, hNr, hl, hB, h1, hpB, fun rd H2 kvs row s2 hrd R => ?_⟩
  have s12 := s1.trans s2
  have rl : row.length ≤ B.length := nodup_len R.nd R.sub
  refine ⟨_, rfl, _, rfl, rd, _, rfl, DGet.k (k := Sum.inl other) R.dat, _, rfl, ?_⟩
  refine ite2 (fun c => ?_) (fun c => ?_)
  · rw [R.has other] at c
    obtain ⟨al, l, v1, v2, road⟩ := R.road other (of_decide_eq_true c)
    have dg : DGet H2 rd (kV (Sum.inl other)) (some (.ref al)) := by rw [← v1]; exact DGet.k R.dat
    refine ⟨_, rfl, _, rfl, rd, .ref al, rfl, dg, (by show 2 ≤ sizeLine; decide), fun t ht => ?_⟩
    have ll : l.length ≤ B.length := nodup_len road.nodup (road.sub h1 hpB)
    exact q h1 h2 t al _ l true (s12.trans (same_new ht _)) upd_same (same_new ht _ _ _ v2) (by omega) road
  · rw [R.has other] at c
    refine ⟨_, rfl, rd, kvs, row, rfl, R.dat, R.keys, (by omega), fun p ns' hp pm pw => ⟨(by show 2 ≤ sizeLine; decide), fun t ht => ?_⟩⟩
    have s3 := same_new hp (.lst (ns'.map V.int))
    have mem : ∀ z, z ∈ ns' ↔ z ∈ row := fun z => pm.mem_iff
    refine q h1 h2 t p _ ns' false ((s12.trans s3).trans (same_new ht _)) upd_same (same_new ht _ _ _ upd_same) (by rw [pm.length_eq]; omega) ⟨perm_dedup pm R.nd pw, (mem _).mpr (List.mem_of_getElem? R.hd), fun z => c (decide_eq_true ((mem _).mp z)), fun x hx z a => (mem z).mpr (R.shut x ((mem x).mp hx) z a), fun z hz => R.sub z ((mem z).mp hz)⟩
theorem ok_init {f C : Addr} {fd : FuncData} (F : Fun K "__init__" "Chart.__init__" sChartInit f fd) (cl : Cls K C) (nP : NoAttr K C "places") (nB : NoAttr K C "bridges") (yList : mg "list" = none) : FnOk P w K mg base CX0 1 f fd pChartInit (spInit C) := by
  refine F.ok scChartInit (fun vs H Q E h => ?_) (fun cdv A outer s H vs Q E hr h => ?_)
  · obtain ⟨p, dx, g, B, rfl, _⟩ := h
    rfl
  obtain ⟨p, dx, g, B, rfl, hp, hg, q⟩ := h
  refine ⟨_, pss_cons (ps_fld (pv 0) (pe_callTy call_list_of rfl yList bt_list (pa_cons (pv 1) pa_nil)) rfl) (pss_one (ps_fld (pv 0) (pe_lst pa_nil) rfl)), ?_⟩
  refine ⟨_, rfl, g, _, rfl, .inl (SqL.of hg), fun a ha => ?_⟩
  have s1 := same_new ha (.lst (B.map V.int))
  have hp1 := s1 _ _ hp
  refine ⟨_, rfl, p, C, dx, [], rfl, hp1, cl, nP, (by show 0 < 1000; decide), ?_⟩
  have npa : a ≠ p := fun z => by rw [z, hp] at ha; cases ha
  refine ⟨(by show 0 ≤ sizeLine; decide), fun b hb => ?_⟩
  have nbp : b ≠ p := fun z => by rw [z, upd_same] at hb; cases hb
  have hb0 : H b = none := by
    rw [upd_ne nbp] at hb
    exact s1.free hb
  have nba : b ≠ a := fun z => by rw [z, upd_ne npa, upd_same] at hb; cases hb
  refine ⟨_, rfl, p, C, dx, _, rfl, (by rw [upd_ne (Ne.symm nbp), upd_same]), cl, nB, (by show 1 < 1000; decide), ?_⟩
  refine q a b _ ha hb0 (fun c o h n => ?_) ⟨⟨dx, upd_same⟩, ?_, [], ?_, .nil⟩
  · rw [upd_ne n, upd_ne (ne_of_none h hb0), upd_ne n]
    exact s1 _ _ h
  · rw [upd_ne npa, upd_ne (Ne.symm nba), upd_ne npa, upd_same]
  · rw [upd_ne nbp, upd_same]
theorem ok_lesser {f : Addr} {fd : FuncData} (F : Fun K "lesser_first" "lesser_first" sLesserFirst f fd) (yMin : mg "min" = none) (yMax : mg "max" = none) : FnOk P w K mg base CX0 1 f fd pLesserFirst spLesser := by
  refine F.ok scLesserFirst (fun vs H Q E h => ?_) (fun cdv A outer s H vs Q E hr h => ?_)
  · obtain ⟨x, y, rfl, _⟩ := h
    rfl
  obtain ⟨x, y, rfl, q⟩ := h
  refine ⟨_, pss_one (ps_ret (pe_tup (pa_cons (pe_callB (call_min2 rfl) rfl yMin bt_min (pa_cons (pv 0) (pa_cons (pv 1) pa_nil))) (pa_cons (pe_callB (call_max2 rfl) rfl yMax bt_max (pa_cons (pv 0) (pa_cons (pv 1) pa_nil))) pa_nil)))), ?_⟩
  exact ⟨_, rfl, _, rfl, _, _, rfl, _, rfl, _, rfl, _, _, rfl, (by show 2 ≤ sizeLine; decide), fun t ht => q t ht⟩
theorem ok_between {f C CN CO : Addr} {fd : FuncData} (F : Fun K "bridge_between" "Chart.bridge_between" sChartBridgeBetween f fd) (cl : Cls K C) (nP : NoAttr K C "places") (mO : mg "OnePlace" = some (.ref CO)) (xO : PySem.W.excIn K CO valueErrors "ValueError.__new__" = true)
    (hC : HasX P w K mg base "check_places" ["places", "one", "other"] 1 (spCheck K CN)) (hL : Has P w K mg base "lesser_first" ["one", "other"] 1 spLesser) : FnOk P w K mg base (CX1 P w) 2 f fd pChartBridgeBetween (spBetween C CN CO) := by
  obtain ⟨fC, fdC, GC, bC, kC, mC⟩ := hC
  obtain ⟨fL, fdL, GL, bL, kL, mL⟩ := hL
  refine okX F scChartBridgeBetween (fun vs H Q E h => ?_) (fun cdv A outer s H vs Q E hr h => ?_)
  · obtain ⟨p, a, b, B, ps, x, y, rfl, _⟩ := h
    rfl
  obtain ⟨p, a, b, B, ps, x, y, rfl, hc, qN, qO, q⟩ := h
  obtain ⟨⟨dx, h1⟩, h2, xs, h3, h4⟩ := id hc
  refine ⟨_, pss_cons (ps_expr (pe_call GC hr rfl mC kC bC .nil passX (pa_cons (pe_fld (pv 0) rfl) (pa_cons (pv 1) (pa_cons (pv 2) pa_nil)))))
    (pss_cons (ps_if (pt_cmpR op_eq (pv 1) (pv 2) (nomark _)) (pss_one (ps_raise rfl mO xO rfl (pa_cons pe_str pa_nil) throwsX)) pss_nil)
    (pss_one (ps_ret (pe_call GL hr rfl mL kL bL .nil pass0 (pa_cons (pv 1) (pa_cons (pv 2) pa_nil)))))), ?_⟩
  refine ⟨_, rfl, p, C, dx, _, _, rfl, h1, cl, nP, flds_places _ _, _, rfl, _, rfl, a, B, x, y, rfl, SqL.of h2, fun m1 m2 => ?_, qN⟩
  refine ⟨_, rfl, _, rfl, rfl, _, rfl, ?_⟩
  refine ite2 (fun c => ⟨(by show 1 ≤ sizeLine; decide), qO m1 m2 ?_⟩) (fun c => ?_)
  · have z := of_decide_eq_true c
    exact V.int.inj z
  · have n : x ≠ y := fun z => c (decide_eq_true (by rw [z]))
    exact ⟨_, rfl, _, rfl, x, y, rfl, fun t ht => q m1 m2 n t _ (same_new ht _) upd_same⟩
theorem ok_build {f fB C CN CO CS : Addr} {fd fdB : FuncData} (F : Fun K "build" "Chart.build" sChartBuild f fd) (cl : Cls K C) (nP : NoAttr K C "bridges") (ySorted : mg "sorted" = none) (mS : mg "Stands" = some (.ref CS)) (xS : PySem.W.excIn K CS valueErrors "ValueError.__new__" = true)
    (mB : Meth K C "bridge_between" fB) (GB : FnOk P w K mg base (CX1 P w) 2 fB fdB pChartBridgeBetween (spBetween C CN CO)) (bB : Binds K fdB pChartBridgeBetween []) : FnOk P w K mg base (CX1 P w) 3 f fd pChartBuild (spBuild C CN CO CS) := by
  refine okX F scChartBuild (fun vs H Q E h => ?_) (fun cdv A outer s H vs Q E hr h => ?_)
  · obtain ⟨p, a, b, B, ps, x, y, rfl, _⟩ := h
    rfl
  obtain ⟨p, a, b, B, ps, x, y, rfl, hc, hl, qN, qO, qS, q⟩ := h
  obtain ⟨⟨dx, h1⟩, h2, xs, h3, h4⟩ := id hc
  have hu := hu_of hr
  refine ⟨_, pss_cons (ps_set (i := 3) scChartBuild.nd rfl (Or.inl rfl) (pe_meth (pv 0) cl mB GB hr bB .nil passX (pa_cons (pv 1) (pa_cons (pv 2) pa_nil))))
    (pss_cons (ps_if (pt_cmpR (op_inP hu) (pv 3) (pe_fld (pv 0) rfl) rfl) (pss_one (ps_raise rfl mS xS rfl (pa_cons pe_str pa_nil) throwsX)) pss_nil)
    (pss_one (ps_fld (pv 0) (pe_callB call_sortedPairs rfl ySorted bt_sorted (pa_cons (pe_op op_cat (pe_fld (pv 0) rfl) (pe_lst (pa_cons (pv 3) pa_nil))) pa_nil)) rfl))), ?_⟩
  refine ⟨_, rfl, p, dx, _, rfl, h1, flds_no _ _ (by decide +kernel) (by decide +kernel), _, rfl, _, rfl, p, a, b, B, ps, x, y, rfl, hc, qN, qO, fun m1 m2 n t H1 s1 ht => ?_⟩
  have c1 := hc.same s1
  have g1 := s1 _ _ h1
  have g3 := s1 _ _ h3
  have g4 := s1.prs h4
  refine ⟨_, rfl, _, rfl, p, C, dx, _, _, rfl, g1, cl, nP, flds_bridges _ _, t, b, bdg x y, xs, ps, rfl, rfl, ht, SqL.of g3, g4, _, rfl, ?_⟩
  refine ite2 (fun c => ⟨(by show 1 ≤ sizeLine; decide), qS m1 m2 n (of_decide_eq_true c) H1 s1⟩) (fun c => ?_)
  have nm : bdg x y ∉ ps := fun z => c (decide_eq_true z)
  refine ⟨_, rfl, p, C, dx, _, _, rfl, g1, cl, nP, flds_bridges _ _, _, rfl, (by show 1 ≤ sizeLine; decide), fun l hl' => ?_⟩
  have s2 := same_new hl' (.lst [.ref t])
  have k3 := s2 _ _ g3
  have len := h4.length
  refine ⟨b, l, xs, [.ref t], rfl, rfl, k3, upd_same, (by rw [List.length_singleton]; have := sizeLine_eq; omega), fun e he => ?_⟩
  have s3 := same_new he (.lst (xs ++ [.ref t]))
  have s13 := (s1.trans s2).trans s3
  have pe : Prs (upd (upd H1 l (.lst [.ref t])) e (.lst (xs ++ [.ref t]))) (xs ++ [.ref t]) (ps ++ [bdg x y]) := (s13.prs h4).snoc ⟨t, rfl, s3 _ _ (s2 _ _ ht)⟩
  have ee : (upd (upd H1 l (.lst [.ref t])) e (.lst (xs ++ [.ref t]))) e = some (.lst (xs ++ [.ref t])) := upd_same
  generalize upd (upd H1 l (.lst [.ref t])) e (.lst (xs ++ [.ref t])) = H3 at s13 pe ee
  refine ⟨e, _, _, rfl, SqL.of ee, pe, (by rw [List.length_append, List.length_singleton]; omega), fun b' vs' ps' hb' pr pm pw => ?_⟩
  have s4 := same_new hb' (.lst vs')
  have s14 := s13.trans s4
  have k1 := s14 _ _ h1
  have nbp : b' ≠ p := fun z => by rw [z] at hb'; rw [s13 _ _ h1] at hb'; cases hb'
  refine ⟨_, rfl, p, C, dx, _, rfl, k1, cl, nP, flds_len _ _, ?_⟩
  rw [flds_put]
  have hb0 : H b' = none := s13.free hb'
  refine q m1 m2 n nm b' ps' _ hb0 ((SameX.of s14).put _) ⟨⟨dx, upd_same⟩, ?_, vs', ?_, ?_⟩ pm pw
  · rw [upd_ne (ne_of h2 h1 (by intro z; cases z))]
    exact s14 _ _ h2
  · rw [upd_ne nbp, upd_same]
  · exact ((SameX.of s4).put (p := p) _).prs (s13 _ _ h1) pr
theorem ok_pull {f fB C CN CO CB : Addr} {fd fdB : FuncData} (F : Fun K "pull" "Chart.pull" sChartPull f fd) (cl : Cls K C) (nP : NoAttr K C "bridges") (mN : mg "NoBridge" = some (.ref CB)) (xN : PySem.W.excIn K CB valueErrors "ValueError.__new__" = true)
    (mB : Meth K C "bridge_between" fB) (GB : FnOk P w K mg base (CX1 P w) 2 fB fdB pChartBridgeBetween (spBetween C CN CO)) (bB : Binds K fdB pChartBridgeBetween []) : FnOk P w K mg base (CX1 P w) 3 f fd pChartPull (spPull C CN CO CB) := by
  refine okX F scChartPull (fun vs H Q E h => ?_) (fun cdv A outer s H vs Q E hr h => ?_)
  · obtain ⟨p, a, b, B, ps, x, y, rfl, _⟩ := h
    rfl
  obtain ⟨p, a, b, B, ps, x, y, rfl, hc, hl, qN, qO, qS, q⟩ := h
  obtain ⟨⟨dx, h1⟩, h2, xs, h3, h4⟩ := id hc
  have hu := hu_of hr
  have hasO : ∀ x, ((relabel scKept (cxOf (CX1 P w) P w K mg base nChartPull "Chart.pull" (defScope sChartPull) f cdv A outer s H E).env).names.lookup x = some .cell ∨ (relabel scKept (cxOf (CX1 P w) P w K mg base nChartPull "Chart.pull" (defScope sChartPull) f cdv A outer s H E).env).names.lookup x = some .free) → ∃ c, ([("bridge", s.heap.objs.size + 1)] : List (Str × Addr)).lookup x = some c := fun x h => by
    have m' : (x, NameKind.cell) ∈ ([(".0", .local), ("kept", .local), ("bridge", .cell)] : List (Str × NameKind)) ∨ (x, NameKind.free) ∈ ([(".0", .local), ("kept", .local), ("bridge", .cell)] : List (Str × NameKind)) :=
      h.imp (fun z => look_mem z) (fun z => look_mem z)
    simp at m'
    rw [m']
    exact ⟨_, rfl⟩
  have CK : CompOk (cxOf (CX1 P w) P w K mg base nChartPull "Chart.pull" (defScope sChartPull) f cdv A outer s H E) scKept [("bridge", s.heap.objs.size + 1)] := ⟨rfl, by decide +kernel, by decide +kernel, rfl, fun _ _ h => h, hasO⟩
  refine ⟨_, pss_cons (ps_set (i := 3) scChartPull.nd rfl (Or.inr rfl) (pe_meth (pv 0) cl mB GB hr bB .nil passX (pa_cons (pv 1) (pa_cons (pv 2) pa_nil))))
    (pss_cons (ps_if (pt_cmpR (op_notInP hu) (pv 3) (pe_fld (pv 0) rfl) rfl) (pss_one (ps_raise rfl mN xN rfl (pa_cons pe_str pa_nil) throwsX)) pss_nil)
    (pss_one (ps_fld (pv 0) (pe_comp (N := ["kept", "bridge"]) rfl CK (pi_list (pe_fld (pv 0) rfl)) (fun _ _ _ => pg_name (i := 0) ndKept rfl (Or.inl rfl)) (fun _ _ _ => pif_one (pt_cmpR (r := rEqT K true) (op_neT (Nat.lt_of_succ_lt hu)) (pv 0) (pv 1) (nomark _))) (fun _ _ _ => pv 0)) rfl))), ?_⟩
  refine ⟨_, rfl, p, dx, _, rfl, h1, flds_no _ _ (by decide +kernel) (by decide +kernel), _, rfl, _, rfl, p, a, b, B, ps, x, y, rfl, hc, qN, qO, fun m1 m2 n t H1 s1 ht => ?_⟩
  have g1 := s1 _ _ h1
  have g3 := s1 _ _ h3
  have g4 := s1.prs h4
  have len := h4.length
  refine ⟨_, rfl, _, rfl, p, C, dx, _, _, rfl, g1, cl, nP, flds_bridges _ _, t, b, bdg x y, xs, ps, rfl, rfl, ht, SqL.of g3, g4, _, rfl, ?_⟩
  refine ite2 (fun c => ⟨(by show 1 ≤ sizeLine; decide), qS m1 m2 n (fun z => ?_) H1 s1⟩) (fun c => ?_)
  · have c' : (!decide (bdg x y ∈ ps)) = true := c
    rw [decide_eq_true z] at c'
    cases c'
  have nm : bdg x y ∈ ps := by
    by_cases z : bdg x y ∈ ps
    · exact z
    · exact absurd (show (!decide (bdg x y ∈ ps)) = true by rw [decide_eq_false z]; rfl) c
  refine ⟨_, rfl, p, C, dx, _, _, rfl, g1, cl, nP, flds_bridges _ _, b, rfl, ⟨_, SqL.of g3⟩, fun acc hacc => ?_⟩
  refine comp_mk [none, some (.ref t)] rfl ?_ (comp_list (xs := xs) (fun i σ' H2 => ∃ v0 ys, σ' = [v0, some (.ref t)] ∧ Same H1 H2 ∧ H2 acc = some (.lst ys) ∧ Prs H1 ys ((ps.take i).filter fun q => decide (q ≠ bdg x y)) ∧ ys.length ≤ i) ⟨none, [], rfl, same_new hacc _, upd_same, .nil, Nat.le_refl _⟩
    (fun i σ' H2 _ ⟨_, _, _, s2, _⟩ => SqL.of (s2 _ _ g3)) ?_ ?_)
  · intro j z v e1 e2
    match j, e1, e2 with
    | 0, e1, e2 => cases e2
    | 1, e1, e2 =>
      cases e1
      cases e2
      exact ⟨3, rfl, rfl, rfl, rfl⟩
    | j + 2, e1, e2 => cases e1
  · rintro i z σ' H2 hi ⟨v0, ys, rfl, s2, hy, py, yl⟩
    obtain ⟨u, hu', c, rfl, hc'⟩ := g4.get hi
    have ec : (ps.take (i + 1)).filter (fun q => decide (q ≠ bdg x y)) = (ps.take i).filter (fun q => decide (q ≠ bdg x y)) ++ [u].filter (fun q => decide (q ≠ bdg x y)) := by
      rw [← List.filter_append, List.take_add_one, hu']
      rfl
    have il : i < xs.length := (List.getElem?_eq_some_iff.mp hi).1
    dsimp only [gName]
    refine ⟨_, rfl, _, rfl, c, t, [u.1, u.2], [(bdg x y).1, (bdg x y).2], rfl, rfl, SqT.of (s2 _ _ hc'), SqT.of (s2 _ _ ht), _, rfl, ?_⟩
    have eb : (if true = true then !decide ([u.1, u.2] = [(bdg x y).1, (bdg x y).2]) else decide ([u.1, u.2] = [(bdg x y).1, (bdg x y).2])) = decide (u ≠ bdg x y) := by
      rw [if_pos rfl, decide_not]
      congr 1
      rw [decide_eq_decide]
      constructor
      · intro e
        simp only [List.cons.injEq, and_true] at e
        exact Prod.ext e.1 e.2
      · intro e
        rw [e]
    rw [eb]
    refine ite2 (fun c' => ?_) (fun c' => ?_)
    · refine ⟨_, rfl, ys, hy, (by have := sizeLine_eq; omega), ⟨_, _, rfl, same_put s2 hacc _, upd_same, ?_, (by rw [List.length_append, List.length_singleton]; omega)⟩⟩
      rw [ec, show [u].filter (fun q => decide (q ≠ bdg x y)) = [u] from List.filter_cons_of_pos (p := fun q => decide (q ≠ bdg x y)) c']
      exact py.snoc ⟨c, rfl, hc'⟩
    · refine ⟨_, ys, rfl, s2, hy, ?_, (by omega)⟩
      rw [ec, show [u].filter (fun q => decide (q ≠ bdg x y)) = [] from List.filter_cons_of_neg (p := fun q => decide (q ≠ bdg x y)) c', List.append_nil]
      exact py
  rintro σ' H2 ⟨v0, ys, rfl, s2, hy, py, yl⟩
  rw [len, List.take_length] at py
  have s12 := s1.trans s2
  have k1 := s12 _ _ h1
  have nbp : acc ≠ p := fun z => by rw [z, g1] at hacc; cases hacc
  refine ⟨_, rfl, p, C, dx, _, rfl, k1, cl, nP, flds_len _ _, ?_⟩
  rw [flds_put]
  refine q m1 m2 n nm acc _ (s1.free hacc) ((SameX.of s12).put _) ⟨⟨dx, upd_same⟩, ?_, ys, ?_, ?_⟩
  · rw [upd_ne (ne_of h2 h1 (by intro z; cases z))]
    exact s12 _ _ h2
  · rw [upd_ne nbp]
    exact hy
  · exact ((SameX.of s2).put (p := p) _).prs g1 py
theorem ok_do {f fB fP C CN CO CS CB : Addr} {fd fdB fdP : FuncData} (F : Fun K "do_deed" "do_deed" sDoDeed f fd) (cl : Cls K C) (nP : NoAttr K C "places") (nB : NoAttr K C "bridges") (mB : Meth K C "build" fB) (GB : FnOk P w K mg base (CX1 P w) 3 fB fdB pChartBuild (spBuild C CN CO CS)) (bB : Binds K fdB pChartBuild [])
    (mP : Meth K C "pull" fP) (GP : FnOk P w K mg base (CX1 P w) 3 fP fdP pChartPull (spPull C CN CO CB)) (bP : Binds K fdP pChartPull []) (hW : HasX P w K mg base "way" ["places", "bridges", "one", "other"] 2 (spWay K CN)) : FnOk P w K mg base (CX1 P w) 4 f fd pDoDeed (spDo C CN CO CS CB) := by
  obtain ⟨fW, fdW, GW, bW, kW, mW⟩ := hW
  refine okX F scDoDeed (fun vs H Q E h => ?_) (fun cdv A outer s H vs Q E hr h => ?_)
  · obtain ⟨p, a, b, t, B, ps, qs, d, rfl, _⟩ := h
    rfl
  obtain ⟨p, a, b, t, B, ps, qs, ⟨k, x, y⟩, rfl, hc, ok, kq, hq, hB, ht, qE, q⟩ := h
  obtain ⟨⟨dx, h1⟩, h2, xs, h3, h4⟩ := id hc
  have hr2 := hr.mono (show 2 ≤ 3 by decide)
  have pl := ok.pm.length_eq
  have mem : ∀ z, z ∈ ps ↔ z ∈ qs := fun z => ok.pm.mem_iff
  refine ⟨_, pss_cons (ps_if (pt_cmpR op_eq (pe_ix ix_tup (pv 1) pe_int (fun _ _ => rfl)) pe_str (nomark _))
      (pss_cons (ps_expr (pe_meth (pv 0) cl mB GB hr bB .nil passX (pa_cons (pe_ix ix_tup (pv 1) pe_int (fun _ _ => rfl)) (pa_cons (pe_ix ix_tup (pv 1) pe_int (fun _ _ => rfl)) pa_nil)))) (pss_one (ps_ret pe_str))) pss_nil)
    (pss_cons (ps_if (pt_cmpR op_eq (pe_ix ix_tup (pv 1) pe_int (fun _ _ => rfl)) pe_str (nomark _))
      (pss_cons (ps_expr (pe_meth (pv 0) cl mP GP hr bP .nil passX (pa_cons (pe_ix ix_tup (pv 1) pe_int (fun _ _ => rfl)) (pa_cons (pe_ix ix_tup (pv 1) pe_int (fun _ _ => rfl)) pa_nil)))) (pss_one (ps_ret pe_str))) pss_nil)
    (pss_one (ps_ret (pe_call GW hr2 rfl mW kW bW .nil passX (pa_cons (pe_fld (pv 0) rfl) (pa_cons (pe_fld (pv 0) rfl) (pa_cons (pe_ix ix_tup (pv 1) pe_int (fun _ _ => rfl)) (pa_cons (pe_ix ix_tup (pv 1) pe_int (fun _ _ => rfl)) pa_nil)))))))), ?_⟩
  refine ⟨_, rfl, t, _, _, _, rfl, rfl, SqT.of ht, rfl, rfl, _, rfl, ?_⟩
  cases k with
  | build =>
    refine iteT ?_
    refine ⟨_, rfl, p, dx, _, rfl, h1, flds_no _ _ (by decide +kernel) (by decide +kernel), _, rfl, t, _, _, _, rfl, rfl, SqT.of ht, rfl, _, rfl, t, _, _, _, rfl, rfl, SqT.of ht, rfl, p, a, b, B, ps, x, y, rfl, hc, (by omega), fun m => ?_, fun m1 m2 e => ?_, fun m1 m2 n m H' s' => ?_, fun m1 m2 n m b' ps' H' nb sx ch pm pw => ?_⟩
    · have e : out B qs (Kd.build, x, y) = .noPlace := if_neg m
      exact qE CN H (by rw [e]; rfl) (Same.refl H)
    · have e : out B qs (Kd.build, x, y) = .onePlace := by
        unfold out
        rw [if_pos ⟨m1, m2⟩, if_neg (fun z => nomatch z), if_pos e]
      exact qE CO H (by rw [e]; rfl) (Same.refl H)
    · have e : out B qs (Kd.build, x, y) = .stands := by
        unfold out
        rw [if_pos ⟨m1, m2⟩, if_neg (fun z => nomatch z), if_neg n, if_pos rfl, if_pos ((mem _).mp m)]
      exact qE CS H' (by rw [e]; rfl) s'
    · have e : out B qs (Kd.build, x, y) = .built := by
        unfold out
        rw [if_pos ⟨m1, m2⟩, if_neg (fun z => nomatch z), if_neg n, if_pos rfl, if_neg (fun z => m ((mem _).mpr z))]
      refine q (by rw [e]; rfl) _ b' H' ⟨.inr nb, sx, ps', ch, ?_, pw⟩ (AnsV.word e (by decide))
      unfold stepQ
      rw [e]
      exact pm.trans (ok.pm.append_right _)
  | pull =>
    refine iteF ?_
    refine ⟨_, rfl, t, _, _, _, rfl, rfl, SqT.of ht, rfl, rfl, _, rfl, ?_⟩
    refine iteT ?_
    refine ⟨_, rfl, p, dx, _, rfl, h1, flds_no _ _ (by decide +kernel) (by decide +kernel), _, rfl, t, _, _, _, rfl, rfl, SqT.of ht, rfl, _, rfl, t, _, _, _, rfl, rfl, SqT.of ht, rfl, p, a, b, B, ps, x, y, rfl, hc, (by omega), fun m => ?_, fun m1 m2 e => ?_, fun m1 m2 n m H' s' => ?_, fun m1 m2 n m b' H' nb sx ch => ?_⟩
    · have e : out B qs (Kd.pull, x, y) = .noPlace := if_neg m
      exact qE CN H (by rw [e]; rfl) (Same.refl H)
    · have e : out B qs (Kd.pull, x, y) = .onePlace := by
        unfold out
        rw [if_pos ⟨m1, m2⟩, if_neg (fun z => nomatch z), if_pos e]
      exact qE CO H (by rw [e]; rfl) (Same.refl H)
    · have e : out B qs (Kd.pull, x, y) = .noBridge := by
        unfold out
        rw [if_pos ⟨m1, m2⟩, if_neg (fun z => nomatch z), if_neg n, if_neg (fun z => nomatch z), if_neg (fun z => m ((mem _).mpr z))]
      exact qE CB H' (by rw [e]; rfl) s'
    · have e : out B qs (Kd.pull, x, y) = .pulled := by
        unfold out
        rw [if_pos ⟨m1, m2⟩, if_neg (fun z => nomatch z), if_neg n, if_neg (fun z => nomatch z), if_pos ((mem _).mp m)]
      refine q (by rw [e]; rfl) _ b' H' ⟨.inr nb, sx, _, ch, ?_, ok.or.filter _⟩ (AnsV.word e (by decide))
      unfold stepQ
      rw [e]
      exact pull_perm ok.pm kq.nd
  | way =>
    refine iteF ?_
    refine ⟨_, rfl, t, _, _, _, rfl, rfl, SqT.of ht, rfl, rfl, _, rfl, ?_⟩
    refine iteF ?_
    refine ⟨_, rfl, p, C, dx, _, _, rfl, h1, cl, nP, flds_places _ _, _, rfl, p, C, dx, _, _, rfl, h1, cl, nB, flds_bridges _ _, _, rfl, t, _, _, _, rfl, rfl, SqT.of ht, rfl, _, rfl, t, _, _, _, rfl, rfl, SqT.of ht, rfl, a, b, B, xs, ps, x, y, rfl, SqL.of h2, SqL.of h3, h4, (by omega), hB, fun z hz => kq.sub z ((mem z).mp hz), fun m => ?_, fun m1 m2 t' l H' row road s' ht' hl' hrl ok' => ?_⟩
    · have e : out B qs (Kd.way, x, y) = .noPlace := if_neg m
      exact qE CN H (by rw [e]; rfl) (Same.refl H)
    · have e : out B qs (Kd.way, x, y) = .way := by
        unfold out
        rw [if_pos ⟨m1, m2⟩, if_pos rfl]
      refine q (by rw [e]; rfl) _ b H' ⟨.inl rfl, SameX.of s', ps, hc.same s', ?_⟩ (.inr ⟨e, t', l, row, road, rfl, ht', hl', hrl, ok'.mem mem⟩)
      unfold stepQ
      rw [e]
      exact ok
theorem ok_answer_on {f C CN CO CS CB : Addr} {fd : FuncData} (F : Fun K "answer_on" "answer_on" sAnswerOn f fd) (mN : mg "NoPlace" = some (.ref CN)) (mO : mg "OnePlace" = some (.ref CO)) (mS : mg "Stands" = some (.ref CS)) (mB : mg "NoBridge" = some (.ref CB))
    (eNN : PySem.W.exmOne K (.ref CN) (.ref CN) = some true) (eON : PySem.W.exmOne K (.ref CO) (.ref CN) = some false) (eOO : PySem.W.exmOne K (.ref CO) (.ref CO) = some true) (eSN : PySem.W.exmOne K (.ref CS) (.ref CN) = some false) (eSO : PySem.W.exmOne K (.ref CS) (.ref CO) = some false) (eSS : PySem.W.exmOne K (.ref CS) (.ref CS) = some true)
    (eBN : PySem.W.exmOne K (.ref CB) (.ref CN) = some false) (eBO : PySem.W.exmOne K (.ref CB) (.ref CO) = some false) (eBS : PySem.W.exmOne K (.ref CB) (.ref CS) = some false) (eBB : PySem.W.exmOne K (.ref CB) (.ref CB) = some true)
    (hD : HasX P w K mg base "do_deed" ["chart", "deed"] 4 (spDo C CN CO CS CB)) : FnOk P w K mg base CX0 5 f fd pAnswerOn (spAnsOn C) := by
  obtain ⟨fD, fdD, GD, bD, kD, mD⟩ := hD
  refine F.ok scAnswerOn (fun vs H Q E h => ?_) (fun cdv A outer s H vs Q E hr h => ?_)
  · obtain ⟨p, a, b, t, B, ps, qs, d, rfl, _⟩ := h
    rfl
  obtain ⟨p, a, b, t, B, ps, qs, d, rfl, hc, ok, kq, hq, hB, ht, q⟩ := h
  refine ⟨_, pss_one (ps_tryRet GD hr rfl mD kD bD (pa_cons (pv 0) (pa_cons (pv 1) pa_nil)) rfl rfl
    (ph_plain rfl mN (fun ea oe cls hcl => pss_one (ps_ret pe_str)) (ph_plain rfl mO (fun ea oe cls hcl => pss_one (ps_ret pe_str)) (ph_plain rfl mS (fun ea oe cls hcl => pss_one (ps_ret pe_str)) (ph_plain rfl mB (fun ea oe cls hcl => pss_one (ps_ret pe_str)) ph_nil))))), ?_⟩
  refine ⟨_, rfl, _, rfl, p, a, b, t, B, ps, qs, d, rfl, hc, ok, kq, hq, hB, ht, fun c H' e s' ea => ?_, fun _ v b' H' bh av => q v b' H' bh av⟩
  have bh : ∀ {o : Wd}, out B qs d = o → (∀ qs, nextQ qs d o = qs) → Behind C H H' p a b b B (stepQ B qs d) := fun {o} e1 e2 => by
    refine ⟨.inl rfl, SameX.of s', ps, hc.same s', ?_⟩
    unfold stepQ
    rw [e1, e2]
    exact ok
  cases eo : out B qs d with
  | noPlace =>
    rw [eo] at e
    obtain rfl : CN = c := Option.some.inj e
    exact ⟨true, eNN, iteT (q _ b H' (bh eo fun _ => rfl) (AnsV.word eo (by decide)))⟩
  | onePlace =>
    rw [eo] at e
    obtain rfl : CO = c := Option.some.inj e
    exact ⟨false, eON, iteF ⟨true, eOO, iteT (q _ b H' (bh eo fun _ => rfl) (AnsV.word eo (by decide)))⟩⟩
  | stands =>
    rw [eo] at e
    obtain rfl : CS = c := Option.some.inj e
    exact ⟨false, eSN, iteF ⟨false, eSO, iteF ⟨true, eSS, iteT (q _ b H' (bh eo fun _ => rfl) (AnsV.word eo (by decide)))⟩⟩⟩
  | noBridge =>
    rw [eo] at e
    obtain rfl : CB = c := Option.some.inj e
    exact ⟨false, eBN, iteF ⟨false, eBO, iteF ⟨false, eBS, iteF ⟨true, eBB, iteT (q _ b H' (bh eo fun _ => rfl) (AnsV.word eo (by decide)))⟩⟩⟩⟩
  | built => rw [eo] at e; cases e
  | pulled => rw [eo] at e; cases e
  | way => rw [eo] at e; cases e
theorem ok_answers_on {f C : Addr} {fd : FuncData} (F : Fun K "answers_on" "answers_on" sAnswersOn f fd) (hO : Has P w K mg base "answer_on" ["chart", "deed"] 5 (spAnsOn C)) : FnOk P w K mg base CX0 6 f fd pAnswersOn (spAnssOn C) := by
  obtain ⟨fO, fdO, GO, bO, kO, mO⟩ := hO
  refine F.ok scAnswersOn (fun vs H Q E h => ?_) (fun cdv A outer s H vs Q E hr h => ?_)
  · obtain ⟨p, a, b, l, B, xs, ds, rfl, _⟩ := h
    rfl
  obtain ⟨p, a, b, l, B, xs, ds, rfl, hc, hB, hl, hd, hn, q⟩ := h
  obtain ⟨⟨dx, h1⟩, h2, bx, h3, h4⟩ := id hc
  refine ⟨_, pss_cons (ps_set (i := 2) scAnswersOn.nd rfl (Or.inl rfl) (pe_lst pa_nil))
    (pss_cons (ps_for PassesOwn.never rfl (pi_list (pv 1)) (pg_name (i := 3) scAnswersOn.nd rfl (Or.inl rfl))
      (pss_one (ps_expr (pe_bm PySem.F.plainAttrs_list PySem.F.slot_list_append PySem.F.type_list_append mt_append (pv 2) (pa_cons (pe_call GO hr rfl mO kO bO .nil pass0 (pa_cons (pv 0) (pa_cons (pv 3) pa_nil))) pa_nil)))))
    (pss_one (ps_ret (pv 2)))), ?_⟩
  refine ⟨(by show 0 ≤ sizeLine; decide), fun r hr' => ?_⟩
  have s1 := same_new hr' (.lst [])
  have dl : xs.length = ds.length := Paired.length hd
  refine ⟨_, rfl, l, rfl, ⟨_, SqL.of (s1 _ _ hl)⟩, for_list (K := K) (a := l) (xs := xs) (fun i σ H2 => ∃ v3 rs b', σ = [some (.ref p), some (.ref l), some (.ref r), v3] ∧ SameX p H H2 ∧ H2 r = some (.lst rs) ∧ rs.length = i ∧ (∀ v ∈ rs, ∀ z : Int, v ≠ .int z) ∧ b' ≠ r ∧ (∃ ps, ChartAt C H2 p a b' B ps ∧ ChOk ps (afterQ B (ds.take i))) ∧ AnsAll H2 B ds rs)
    ⟨none, [], b, rfl, SameX.of s1, upd_same, rfl, fun v hv => (by simp at hv), ne_of_none h3 hr', ⟨[], hc.same s1, List.Perm.refl _, List.Pairwise.nil⟩, fun i d v _ hv => (by simp at hv)⟩ (fun i σ H2 _ ⟨_, _, _, _, s2, _⟩ => SqL.of (s2.lst h1 hl)) ?_ ?_⟩
  · rintro i v σ H2 hi ⟨v3, rs, b', rfl, s2, k1, k2, k3, k4, ⟨ps, kc, ko⟩, k5⟩
    obtain ⟨d, hd', t, rfl, ht⟩ := hd.get hi
    have il : i < xs.length := (List.getElem?_eq_some_iff.mp hi).1
    obtain ⟨kq, ql⟩ := afterQ_ok (B := B) (ds := ds) i (by omega)
    obtain ⟨⟨dy, g1⟩, g2, gx, g3, g4⟩ := id kc
    refine ⟨_, rfl, .inl ⟨rfl, _, SqL.of k1⟩, _, rfl, _, rfl, p, a, b', t, B, ps, _, d, rfl, kc, ko, kq, (by omega), hB, s2.tup h1 ht, fun v b'' H3 bh av => ?_⟩
    obtain ⟨nb, sx, ps', ch, co⟩ := bh
    have k1' := sx.lst g1 k1
    have nr : b'' ≠ r := by
      rcases nb with z | z
      · rw [z]
        exact k4
      · intro e
        rw [e, k1] at z
        cases z
    refine ⟨r, rs, v, rfl, rfl, k1', (by have := sizeLine_eq; omega), ?_⟩
    have nar : a ≠ r := ne_of_none h2 hr'
    have stay : ∀ b o, H3 b = some o → (∃ xs, o = .tup xs ∨ (∃ ns : List Int, ns ≠ [] ∧ o = .lst (ns.map V.int))) → (upd H3 r (.lst (rs ++ [v]))) b = some o := fun c o e w => by
      rw [upd_ne]
      · exact e
      · rintro rfl
        rw [k1'] at e
        obtain rfl := Option.some.inj e
        obtain ⟨xs, w | ⟨ns, n0, w⟩⟩ := w
        · cases w
        · have w' : rs = ns.map V.int := HO.lst.inj w
          cases ns with
          | nil => exact n0 rfl
          | cons z zs => exact k3 (.int z) (by rw [w']; simp) z rfl
    refine ⟨_, _, b'', rfl, fun c o e n => ?_, upd_same, (by rw [List.length_append, List.length_singleton]; omega), fun u hu z => ?_, nr, ⟨ps', ch.put k1' nar nr, ?_⟩, fun j e u hj hu => ?_⟩
    · rw [upd_ne (ne_of_none e hr')]
      exact sx _ _ (s2 _ _ e n) n
    · rcases List.mem_append.mp hu with hu | hu
      · exact k3 u hu z
      · rw [List.mem_singleton.mp hu]
        exact av.noInt z
    · rw [afterQ_snoc hd']
      exact co
    · by_cases c : j < rs.length
      · rw [List.getElem?_append_left c] at hu
        refine (k5 j e u hj hu).same fun c o e' w => stay c o ?_ w
        obtain ⟨ys, w | ⟨ns, n0, w⟩⟩ := w
        · rw [w] at e' ⊢
          exact sx.tup g1 e'
        · rw [w] at e' ⊢
          exact sx.lst g1 e'
      · have ej : j = i := by
          have := (List.getElem?_eq_some_iff.mp hu).1
          rw [List.length_append, List.length_singleton] at this
          omega
        subst ej
        rw [hd'] at hj
        obtain rfl := Option.some.inj hj
        rw [List.getElem?_append_right (by omega), k2, Nat.sub_self] at hu
        obtain rfl : v = u := Option.some.inj hu
        exact av.same stay
  · rintro σ H2 ⟨v3, rs, b', rfl, s2, k1, k2, k3, k4, k5, k6⟩
    rw [dl, List.take_length] at k5
    exact ⟨_, rfl, q r b' rs H2 s2 k1 (by omega) k6 k5⟩
theorem isiAny {X : Cx} {ea : Addr} {oe : Obj} {cls : Value} (hcl : oe.cls = cls) : CallR (hand X ea oe) (.builtin "isinstance") (fun xs H Q => ∃ (cv : V) (c : Value) (b : Bool), xs = [.ref ea, cv] ∧ (∀ u, RelV cv u → u = c) ∧ PySem.W.kitOne X.K cls c = some b ∧ (∃ D, cls = .ref D ∧ ExcCls X.K D) ∧ Q (.bl b) H) := by
  intro pins s σ H xs us Q I r h
  obtain ⟨cv, c, b, e1, e2, e3, ⟨D, rfl, C⟩, q⟩ := h
  exact call_isiD hcl C pins s σ H xs us Q I r ⟨cv, c, b, e1, e2, e3, q⟩
theorem ok_by_hand {f fB fP C CN CO CS CB CM : Addr} {fd fdB fdP : FuncData} (F : Fun K "_law_by_hand" "_law_by_hand" sByHand f fd) (cl : Cls K C) (yIs : mg "isinstance" = none) (yInt : mg "int" = none) (yVE : mg "ValueError" = none) (mM : mg "MapError" = some (.ref CM)) (mN : mg "NoPlace" = some (.ref CN)) (mO : mg "OnePlace" = some (.ref CO)) (mS : mg "Stands" = some (.ref CS)) (mB : mg "NoBridge" = some (.ref CB))
    (eNN : PySem.W.exmOne K (.ref CN) (.ref CN) = some true) (eNO : PySem.W.exmOne K (.ref CN) (.ref CO) = some false) (eNS : PySem.W.exmOne K (.ref CN) (.ref CS) = some false) (eNB : PySem.W.exmOne K (.ref CN) (.ref CB) = some false) (eON : PySem.W.exmOne K (.ref CO) (.ref CN) = some false) (eOO : PySem.W.exmOne K (.ref CO) (.ref CO) = some true) (eOS : PySem.W.exmOne K (.ref CO) (.ref CS) = some false) (eOB : PySem.W.exmOne K (.ref CO) (.ref CB) = some false) (eSN : PySem.W.exmOne K (.ref CS) (.ref CN) = some false) (eSO : PySem.W.exmOne K (.ref CS) (.ref CO) = some false) (eSS : PySem.W.exmOne K (.ref CS) (.ref CS) = some true) (eSB : PySem.W.exmOne K (.ref CS) (.ref CB) = some false) (eBN : PySem.W.exmOne K (.ref CB) (.ref CN) = some false) (eBO : PySem.W.exmOne K (.ref CB) (.ref CO) = some false) (eBS : PySem.W.exmOne K (.ref CB) (.ref CS) = some false) (eBB : PySem.W.exmOne K (.ref CB) (.ref CB) = some true) (eNM : PySem.W.exmOne K (.ref CN) (.ref CM) = some true) (eNV : PySem.W.exmOne K (.ref CN) (.type "ValueError") = some true) (EN : ExcCls K CN) (eOM : PySem.W.exmOne K (.ref CO) (.ref CM) = some true) (eOV : PySem.W.exmOne K (.ref CO) (.type "ValueError") = some true) (EO : ExcCls K CO) (eSM : PySem.W.exmOne K (.ref CS) (.ref CM) = some true) (eSV : PySem.W.exmOne K (.ref CS) (.type "ValueError") = some true) (ES : ExcCls K CS) (eBM : PySem.W.exmOne K (.ref CB) (.ref CM) = some true) (eBV : PySem.W.exmOne K (.ref CB) (.type "ValueError") = some true) (EB : ExcCls K CB)
    (hB : Meth K C "build" fB) (GB : FnOk P w K mg base (CX1 P w) 3 fB fdB pChartBuild (spBuild C CN CO CS)) (bB : Binds K fdB pChartBuild []) (hP : Meth K C "pull" fP) (GP : FnOk P w K mg base (CX1 P w) 3 fP fdP pChartPull (spPull C CN CO CB)) (bP : Binds K fdP pChartPull []) : FnOk P w K mg base CX0 4 f fd pByHand (spHand C) := by
  refine F.ok scByHand (fun vs H Q E h => ?_) (fun cdv A outer s H vs Q E hr h => ?_)
  · obtain ⟨p, a, b, t, B, ps, qs, d, rfl, _⟩ := h
    rfl
  obtain ⟨p, a, b, t, B, ps, qs, d, rfl, hc, ok, kq, hq, ht, hk, q⟩ := h
  obtain ⟨⟨dx, h1⟩, h2, xs, h3, h4⟩ := id hc
  have pl := ok.pm.length_eq
  have mem : ∀ z, z ∈ ps ↔ z ∈ qs := fun z => ok.pm.mem_iff
  have hands : ∃ th, PH (cxOf CX0 P w K mg base nByHand "_law_by_hand" (defScope sByHand) f cdv A outer s H E).nox (tryHs ((defBody sByHand).getD 1 (.Pass ⟨0, 0, 0, 0⟩))) th ∧
      ∀ (c : Addr) (H' : Hp) (ea : Addr) (D : Ends) (told : Str), excOf CN CO CS CB (out B qs d) = some c → Same H H' → (∀ H'', Behind C H H'' p a b b B (stepQ B qs d) → D.nx [some (.ref p), some (.ref t), some (.str (out B qs d).text), none] H'') → th (.ref c) ea D [some (.ref p), some (.ref t), some (.str told), none] H' := by
    refine ⟨_, ph_as (i := 3) scByHand.nd rfl rfl mM (fun ea oe cls hcl => pss_cons (ps_set (i := 2) scByHand.nd rfl (Or.inl rfl) pe_str)
        (pss_cons (ps_if (pt_val (pe_callB (isiAny hcl) rfl yIs bt_isinstance (pa_cons (pv 3) (pa_cons (pe_glob (v := .ref CN) rfl mN rfl) pa_nil)))) (pss_one (ps_set (i := 2) scByHand.nd rfl (Or.inl rfl) pe_str)) pss_nil)
        (pss_cons (ps_if (pt_val (pe_callB (isiAny hcl) rfl yIs bt_isinstance (pa_cons (pv 3) (pa_cons (pe_glob (v := .ref CO) rfl mO rfl) pa_nil)))) (pss_one (ps_set (i := 2) scByHand.nd rfl (Or.inl rfl) (pe_ix (r := rIxL K) ix_list (pe_lst (pa_cons pe_str (pa_cons pe_str pa_nil))) (pe_callTy call_int1 rfl yInt bt_int (pa_cons (pe_cmpR op_eq (pv 2) pe_str (nomark _)) pa_nil)) (fun _ _ => rfl)))) pss_nil)
        (pss_cons (ps_if (pt_val (pe_callB (isiAny hcl) rfl yIs bt_isinstance (pa_cons (pv 3) (pa_cons (pe_glob (v := .ref CS) rfl mS rfl) pa_nil)))) (pss_one (ps_set (i := 2) scByHand.nd rfl (Or.inl rfl) (pe_ix (r := rIxL K) ix_list (pe_lst (pa_cons pe_str (pa_cons pe_str pa_nil))) (pe_callTy call_int1 rfl yInt bt_int (pa_cons (pe_cmpR op_eq (pv 2) pe_str (nomark _)) pa_nil)) (fun _ _ => rfl)))) pss_nil)
        (pss_cons (ps_if (pt_val (pe_callB (isiAny hcl) rfl yIs bt_isinstance (pa_cons (pv 3) (pa_cons (pe_glob (v := .ref CB) rfl mB rfl) pa_nil)))) (pss_one (ps_set (i := 2) scByHand.nd rfl (Or.inl rfl) (pe_ix (r := rIxL K) ix_list (pe_lst (pa_cons pe_str (pa_cons pe_str pa_nil))) (pe_callTy call_int1 rfl yInt bt_int (pa_cons (pe_cmpR op_eq (pv 2) pe_str (nomark _)) pa_nil)) (fun _ _ => rfl)))) pss_nil)
        (pss_one (ps_if (pt_not (pt_val (pe_callB (isiAny hcl) rfl yIs bt_isinstance (pa_cons (pv 3) (pa_cons (pe_bltn (v := .ty "ValueError") rfl yVE bt_ValueError rfl) pa_nil))))) (pss_one (ps_set (i := 2) scByHand.nd rfl (Or.inl rfl) pe_str)) pss_nil))))))) ph_nil, ?_⟩
    intro c H' ea D told e s' q
    have bh : ∀ {o : Wd} {H' : Hp}, out B qs d = o → (∀ qs, nextQ qs d o = qs) → Same H H' → Behind C H H' p a b b B (stepQ B qs d) := fun {o H'} e1 e2 s' => by
      refine ⟨.inl rfl, SameX.of s', ps, hc.same s', ?_⟩
      unfold stepQ
      rw [e1, e2]
      exact ok
    cases eo : out B qs d with
    | noPlace =>
      rw [eo] at e q
      obtain rfl : CN = c := Option.some.inj e
      refine ⟨true, eNM, iteT ?_⟩
      refine ⟨_, rfl, _, _, true, rfl, fun u r => r, (kit_of_exm eNN), ⟨_, rfl, EN⟩, _, rfl, iteT ?_⟩
      refine ⟨_, rfl, _, _, false, rfl, fun u r => r, (kit_not eNN eNO), ⟨_, rfl, EN⟩, _, rfl, iteF ?_⟩
      refine ⟨_, rfl, _, _, false, rfl, fun u r => r, (kit_not eNN eNS), ⟨_, rfl, EN⟩, _, rfl, iteF ?_⟩
      refine ⟨_, rfl, _, _, false, rfl, fun u r => r, (kit_not eNN eNB), ⟨_, rfl, EN⟩, _, rfl, iteF ?_⟩
      refine ⟨_, rfl, _, _, true, rfl, fun u r => r, (kit_of_exm eNV), ⟨_, rfl, EN⟩, _, rfl, iteF ?_⟩
      exact q H' (bh eo (fun _ => rfl) s')
    | onePlace =>
      rw [eo] at e q
      obtain rfl : CO = c := Option.some.inj e
      refine ⟨true, eOM, iteT ?_⟩
      refine ⟨_, rfl, _, _, false, rfl, fun u r => r, (kit_not eOO eON), ⟨_, rfl, EO⟩, _, rfl, iteF ?_⟩
      refine ⟨_, rfl, _, _, true, rfl, fun u r => r, (kit_of_exm eOO), ⟨_, rfl, EO⟩, _, rfl, iteT ⟨(by show 2 ≤ sizeLine; decide), fun l hl => ⟨_, rfl, rfl, .inr ⟨_, rfl, l, _, _, _, rfl, rfl, SqL.of upd_same, rfl, ?_⟩⟩⟩⟩
      refine ⟨_, rfl, _, _, false, rfl, fun u r => r, (kit_not eOO eOS), ⟨_, rfl, EO⟩, _, rfl, iteF ?_⟩
      refine ⟨_, rfl, _, _, false, rfl, fun u r => r, (kit_not eOO eOB), ⟨_, rfl, EO⟩, _, rfl, iteF ?_⟩
      refine ⟨_, rfl, _, _, true, rfl, fun u r => r, (kit_of_exm eOV), ⟨_, rfl, EO⟩, _, rfl, iteF ?_⟩
      exact q _ (bh eo (fun _ => rfl) (s'.trans (same_new hl _)))
    | stands =>
      rw [eo] at e q
      obtain rfl : CS = c := Option.some.inj e
      refine ⟨true, eSM, iteT ?_⟩
      refine ⟨_, rfl, _, _, false, rfl, fun u r => r, (kit_not eSS eSN), ⟨_, rfl, ES⟩, _, rfl, iteF ?_⟩
      refine ⟨_, rfl, _, _, false, rfl, fun u r => r, (kit_not eSS eSO), ⟨_, rfl, ES⟩, _, rfl, iteF ?_⟩
      refine ⟨_, rfl, _, _, true, rfl, fun u r => r, (kit_of_exm eSS), ⟨_, rfl, ES⟩, _, rfl, iteT ⟨(by show 2 ≤ sizeLine; decide), fun l hl => ⟨_, rfl, rfl, .inr ⟨_, rfl, l, _, _, _, rfl, rfl, SqL.of upd_same, rfl, ?_⟩⟩⟩⟩
      refine ⟨_, rfl, _, _, false, rfl, fun u r => r, (kit_not eSS eSB), ⟨_, rfl, ES⟩, _, rfl, iteF ?_⟩
      refine ⟨_, rfl, _, _, true, rfl, fun u r => r, (kit_of_exm eSV), ⟨_, rfl, ES⟩, _, rfl, iteF ?_⟩
      exact q _ (bh eo (fun _ => rfl) (s'.trans (same_new hl _)))
    | noBridge =>
      rw [eo] at e q
      obtain rfl : CB = c := Option.some.inj e
      refine ⟨true, eBM, iteT ?_⟩
      refine ⟨_, rfl, _, _, false, rfl, fun u r => r, (kit_not eBB eBN), ⟨_, rfl, EB⟩, _, rfl, iteF ?_⟩
      refine ⟨_, rfl, _, _, false, rfl, fun u r => r, (kit_not eBB eBO), ⟨_, rfl, EB⟩, _, rfl, iteF ?_⟩
      refine ⟨_, rfl, _, _, false, rfl, fun u r => r, (kit_not eBB eBS), ⟨_, rfl, EB⟩, _, rfl, iteF ?_⟩
      refine ⟨_, rfl, _, _, true, rfl, fun u r => r, (kit_of_exm eBB), ⟨_, rfl, EB⟩, _, rfl, iteT ⟨(by show 2 ≤ sizeLine; decide), fun l hl => ⟨_, rfl, rfl, .inr ⟨_, rfl, l, _, _, _, rfl, rfl, SqL.of upd_same, rfl, ?_⟩⟩⟩⟩
      refine ⟨_, rfl, _, _, true, rfl, fun u r => r, (kit_of_exm eBV), ⟨_, rfl, EB⟩, _, rfl, iteF ?_⟩
      exact q _ (bh eo (fun _ => rfl) (s'.trans (same_new hl _)))
    | built => rw [eo] at e; cases e
    | pulled => rw [eo] at e; cases e
    | way => rw [eo] at e; cases e
  obtain ⟨th, hTh, qTh⟩ := hands
  have rest : ∃ tt, PSs (cxOf CX0 P w K mg base nByHand "_law_by_hand" (defScope sByHand) f cdv A outer s H E).nox ((defBody sByHand).drop 1) tt ∧
      ∀ (H0 : Hp) (told : Str), Same H H0 → (d.1 = .build → told = Wd.text .built) → (d.1 = .pull → told = Wd.text .pulled) → tt { nx := fun _ H' => Q .non H', rt := Q } [some (.ref p), some (.ref t), some (.str told), none] H0 := by
    refine ⟨_, pss_cons (ps_tryIf (pt_cmpR op_eq (pe_ix ix_tup (pv 1) pe_int (fun _ _ => rfl)) pe_str (nomark _)) cl (pv 0) hB GB hr bB (pa_cons (pe_ix ix_tup (pv 1) pe_int (fun _ _ => rfl)) (pa_cons (pe_ix ix_tup (pv 1) pe_int (fun _ _ => rfl)) pa_nil)) (pv 0) hP GP hr bP (pa_cons (pe_ix ix_tup (pv 1) pe_int (fun _ _ => rfl)) (pa_cons (pe_ix ix_tup (pv 1) pe_int (fun _ _ => rfl)) pa_nil)) rfl rfl hTh) (pss_one (ps_ret (pv 2))), ?_⟩
    intro H0 told s0 kb kp
    have hc0 := hc.same s0
    have ht0 := s0 _ _ ht
    have g1 := s0 _ _ h1
    have fin : ∀ {H'' : Hp}, Behind C H H'' p a b b B (stepQ B qs d) → ∃ v, ([some (.ref p), some (.ref t), some (.str (out B qs d).text), none] : L2.St)[2]? = some (some v) ∧ Q v H'' := fun {H''} z => ⟨_, rfl, q b H'' z⟩
    refine ⟨_, rfl, t, _, _, _, rfl, rfl, SqT.of ht0, rfl, rfl, _, rfl, ?_⟩
    obtain ⟨k, x, y⟩ := d
    cases k with
    | way => exact absurd rfl hk
    | build =>
      refine iteT ?_
      refine ⟨_, rfl, p, dx, _, rfl, g1, flds_no _ _ (by decide +kernel) (by decide +kernel), _, rfl, t, _, _, _, rfl, rfl, SqT.of ht0, rfl, _, rfl, t, _, _, _, rfl, rfl, SqT.of ht0, rfl, p, a, b, B, ps, x, y, rfl, hc0, (by omega), fun m ea => ?_, fun m1 m2 e ea => ?_, fun m1 m2 n m H' s' ea => ?_, fun m1 m2 n m b' ps' H' nb sx ch pm pw => ?_⟩
      · have e : out B qs (Kd.build, x, y) = .noPlace := if_neg m
        exact qTh CN H0 ea _ told (by rw [e]; rfl) s0 fun H'' z => fin z
      · have e : out B qs (Kd.build, x, y) = .onePlace := by
          unfold out
          rw [if_pos ⟨m1, m2⟩, if_neg (fun z => nomatch z), if_pos e]
        exact qTh CO H0 ea _ told (by rw [e]; rfl) s0 fun H'' z => fin z
      · have e : out B qs (Kd.build, x, y) = .stands := by
          unfold out
          rw [if_pos ⟨m1, m2⟩, if_neg (fun z => nomatch z), if_neg n, if_pos rfl, if_pos ((mem _).mp m)]
        exact qTh CS H' ea _ told (by rw [e]; rfl) (s0.trans s') fun H'' z => fin z
      · have e : out B qs (Kd.build, x, y) = .built := by
          unfold out
          rw [if_pos ⟨m1, m2⟩, if_neg (fun z => nomatch z), if_neg n, if_pos rfl, if_neg (fun z => m ((mem _).mpr z))]
        rw [e] at q
        refine ⟨_, rfl, ?_⟩
        rw [kb rfl]
        refine q b' H' ⟨.inr (s0.free nb), (SameX.of s0).trans sx, ps', ch, ?_, pw⟩
        unfold stepQ
        rw [e]
        exact pm.trans (ok.pm.append_right _)
    | pull =>
      refine iteF ?_
      refine ⟨_, rfl, p, dx, _, rfl, g1, flds_no _ _ (by decide +kernel) (by decide +kernel), _, rfl, t, _, _, _, rfl, rfl, SqT.of ht0, rfl, _, rfl, t, _, _, _, rfl, rfl, SqT.of ht0, rfl, p, a, b, B, ps, x, y, rfl, hc0, (by omega), fun m ea => ?_, fun m1 m2 e ea => ?_, fun m1 m2 n m H' s' ea => ?_, fun m1 m2 n m b' H' nb sx ch => ?_⟩
      · have e : out B qs (Kd.pull, x, y) = .noPlace := if_neg m
        exact qTh CN H0 ea _ told (by rw [e]; rfl) s0 fun H'' z => fin z
      · have e : out B qs (Kd.pull, x, y) = .onePlace := by
          unfold out
          rw [if_pos ⟨m1, m2⟩, if_neg (fun z => nomatch z), if_pos e]
        exact qTh CO H0 ea _ told (by rw [e]; rfl) s0 fun H'' z => fin z
      · have e : out B qs (Kd.pull, x, y) = .noBridge := by
          unfold out
          rw [if_pos ⟨m1, m2⟩, if_neg (fun z => nomatch z), if_neg n, if_neg (fun z => nomatch z), if_neg (fun z => m ((mem _).mpr z))]
        exact qTh CB H' ea _ told (by rw [e]; rfl) (s0.trans s') fun H'' z => fin z
      · have e : out B qs (Kd.pull, x, y) = .pulled := by
          unfold out
          rw [if_pos ⟨m1, m2⟩, if_neg (fun z => nomatch z), if_neg n, if_neg (fun z => nomatch z), if_pos ((mem _).mp m)]
        rw [e] at q
        refine ⟨_, rfl, ?_⟩
        rw [kp rfl]
        refine q b' H' ⟨.inr (s0.free nb), (SameX.of s0).trans sx, _, ch, ?_, ok.or.filter _⟩
        unfold stepQ
        rw [e]
        exact pull_perm ok.pm kq.nd
  obtain ⟨tt, hR, qR⟩ := rest
  refine ⟨_, pss_cons (ps_set (i := 2) scByHand.nd rfl (Or.inl rfl) (pe_ix ix_list (pe_lst (pa_cons pe_str (pa_cons pe_str pa_nil))) (pe_callTy call_int1 rfl yInt bt_int (pa_cons (pe_cmpR op_eq (pe_ix ix_tup (pv 1) pe_int (fun _ _ => rfl)) pe_str (nomark _)) pa_nil)) (fun _ _ => rfl))) hR, ?_⟩
  refine ⟨(by show 2 ≤ sizeLine; decide), fun l hl => ?_⟩
  have s2 := same_new hl (.lst [.str (Str.ofString "pulled"), .str (Str.ofString "built")])
  obtain ⟨k, x, y⟩ := d
  cases k with
  | way => exact absurd rfl hk
  | build => exact ⟨_, rfl, t, _, _, _, rfl, rfl, SqT.of (s2 _ _ ht), rfl, rfl, .inr ⟨_, rfl, l, _, _, _, rfl, rfl, SqL.of upd_same, rfl, qR _ _ s2 (fun _ => rfl) (fun z => nomatch z)⟩⟩
  | pull => exact ⟨_, rfl, t, _, _, _, rfl, rfl, SqT.of (s2 _ _ ht), rfl, rfl, .inr ⟨_, rfl, l, _, _, _, rfl, rfl, SqL.of upd_same, rfl, qR _ _ s2 (fun z => nomatch z) (fun _ => rfl)⟩⟩
theorem ok_pairs2 {f : Addr} {fd : FuncData} (F : Fun K "_law_pairs" "_law_pairs" sPairs f fd) (yIs : mg "isinstance" = none) (yList : mg "list" = none) (yLen : mg "len" = none) (yRange : mg "range" = none) (yTup : mg "tuple" = none)
    (hW : Has P w K mg base "_law_whole" ["_law_found"] 1 spWhole) : FnOk P w K mg base CX0 2 f fd pPairs spPairs2 := by
  obtain ⟨fW, fdW, GW, bW, kW, mW⟩ := hW
  refine F.ok scPairs (fun vs H Q E h => ?_) (fun cdv A outer s H vs Q E hr h => ?_)
  · obtain ⟨a, b, xs, ys, ps, rfl, _⟩ := h
    rfl
  obtain ⟨a, b, xs, ys, ps, rfl, ha, hb0, hP, hP2, hn, q⟩ := h
  have hb : SqL K H b ys := SqL.of hb0
  have hl := hP.length
  have hl2 := hP2.length
  have hu := hu_of hr
  refine ⟨_, pss_cons (ps_if (PW.pt (pw_or (pt_not (pt_val (pe_callB call_isi rfl yIs bt_isinstance (pa_cons (pv 0) (pa_cons (pe_bltn (v := .ty "list") rfl yList bt_list rfl) pa_nil)))))
      (pw_or1 (pt_cmpR op_ne (pe_callB call_len_seq rfl yLen bt_len (pa_cons (pv 0) pa_nil)) (pe_callB call_len_seq rfl yLen bt_len (pa_cons (pv 1) pa_nil)) (nomark _))))) (pss_one (ps_ret pe_bl)) pss_nil)
    (pss_cons (ps_for PassesOwn.never rfl (pi_range1 rfl yRange (pa_cons (pe_callB call_len_seq rfl yLen bt_len (pa_cons (pv 1) pa_nil)) pa_nil)) (pg_name (i := 2) scPairs.nd rfl (Or.inl rfl))
      (pss_cons (ps_if (PW.pt (pw_or (pt_not (pt_val (pe_callB call_isi rfl yIs bt_isinstance (pa_cons (pe_ix ix_list (pv 0) (pv 2) (fun _ _ => rfl)) (pa_cons (pe_bltn (v := .ty "tuple") rfl yTup bt_tuple rfl) pa_nil)))))
        (pw_or1 (pt_cmpR op_ne (pe_callB call_len_seq rfl yLen bt_len (pa_cons (pe_ix ix_list (pv 0) (pv 2) (fun _ _ => rfl)) pa_nil)) pe_int (nomark _))))) (pss_one (ps_ret pe_bl)) pss_nil)
      (pss_cons (ps_if (PW.pt (pw_or (pt_not (pt_val (pe_call GW hr rfl mW kW bW .nil pass0 (pa_cons (pe_ix ix_tup (pe_ix ix_list (pv 0) (pv 2) (fun _ _ => rfl)) pe_int (fun _ _ => rfl)) pa_nil))))
        (pw_or1 (pt_not (pt_val (pe_call GW hr rfl mW kW bW .nil pass0 (pa_cons (pe_ix ix_tup (pe_ix ix_list (pv 0) (pv 2) (fun _ _ => rfl)) pe_int (fun _ _ => rfl)) pa_nil))))))) (pss_one (ps_ret pe_bl)) pss_nil)
      (pss_one (ps_if (pt_cmpR (op_neT (Nat.lt_of_succ_lt hu)) (pe_ix ix_list (pv 0) (pv 2) (fun _ _ => rfl)) (pe_ix ix_list (pv 1) (pv 2) (fun _ _ => rfl)) (nomark _)) (pss_one (ps_ret pe_bl)) pss_nil)))))
    (pss_one (ps_ret pe_bl))), ?_⟩
  refine ⟨_, rfl, _, "list", _, true, rfl, .lst ha, rfl, _, rfl, iteF ?_⟩
  refine ⟨_, rfl, a, _, rfl, .inl (SqL.of ha), _, rfl, b, _, rfl, .inl hb, rfl, _, rfl, ?_⟩
  refine iteNS (by rw [hl, hl2]) ?_
  refine ⟨_, rfl, b, _, rfl, .inl hb, _, rfl, (by omega), (by omega), for_range (lo := 0) (n := (((ys.length : Nat) : Int)).toNat) (fun i σ H2 => ∃ v, σ = [some (.ref a), some (.ref b), v] ∧ H2 = H) ⟨none, rfl, rfl⟩ ?_ ?_⟩
  · rintro i σ H2 hi ⟨v, rfl, rfl⟩
    obtain ⟨y, g, gy⟩ := atI_of (xs := xs) (k := 0 + (i : Int)) (by omega) (by omega)
    obtain ⟨p, hp, c, rfl, hc⟩ := hP.get gy
    obtain ⟨y2, g2, gy2⟩ := atI_of (xs := ys) (k := 0 + (i : Int)) (by omega) (by omega)
    obtain ⟨p2, hp2, c2, rfl, hc2⟩ := hP2.get gy2
    rw [hp] at hp2
    obtain rfl := Option.some.inj hp2
    refine ⟨_, rfl, _, rfl, a, _, _, _, rfl, rfl, SqL.of ha, g, _, "tuple", _, true, rfl, .tup hc, rfl, _, rfl, iteF ?_⟩
    refine ⟨_, rfl, _, rfl, a, _, _, _, rfl, rfl, SqL.of ha, g, c, _, rfl, .inr (SqT.of hc), rfl, _, rfl, ?_⟩
    refine iteNS rfl ?_
    refine ⟨_, rfl, _, rfl, a, _, _, _, rfl, rfl, SqL.of ha, g, c, _, _, _, rfl, rfl, SqT.of hc, rfl, _, rfl, _, rfl, iteF ?_⟩
    refine ⟨_, rfl, _, rfl, a, _, _, _, rfl, rfl, SqL.of ha, g, c, _, _, _, rfl, rfl, SqT.of hc, rfl, _, rfl, _, rfl, iteF ?_⟩
    refine ⟨_, rfl, _, rfl, a, _, _, _, rfl, rfl, SqL.of ha, g, _, rfl, _, rfl, b, _, _, _, rfl, rfl, hb, g2, c, c2, [p.1, p.2], [p.1, p.2], rfl, rfl, SqT.of hc, SqT.of hc2, _, rfl, ?_⟩
    refine iteNS rfl ?_
    exact ⟨_, rfl, rfl⟩
  · rintro σ H2 ⟨v, rfl, rfl⟩
    exact q
theorem ok_standing {f C fI : Addr} {fd fdI : FuncData} (F : Fun K "standing" "standing" sStanding f fd) (mC : mg "Chart" = some (.ref C)) (cl : Cls K C) (nB : NoAttr K C "bridges") (M : Mk K C fI) (GI : FnOk P w K mg base CX0 1 fI fdI pChartInit (spInit C)) (bI : Binds K fdI pChartInit [])
    (hA : Has P w K mg base "answers_on" ["chart", "deeds"] 6 (spAnssOn C)) : FnOk P w K mg base CX0 7 f fd pStanding spStanding := by
  obtain ⟨fA, fdA, GA, bA, kA, mA⟩ := hA
  refine F.ok scStanding (fun vs H Q E h => ?_) (fun cdv A outer s H vs Q E hr h => ?_)
  · obtain ⟨g, l, B, xs, ds, rfl, _⟩ := h
    rfl
  obtain ⟨g, l, B, xs, ds, rfl, hg, hB, hl, hd, hn, q⟩ := h
  have hr2 := hr.mono (show 1 + 1 ≤ 6 by decide)
  refine ⟨_, pss_cons (ps_set (i := 2) scStanding.nd rfl (Or.inl rfl) (pe_make M GI hr2 rfl mC bI .nil pass0 (pa_cons (pv 0) pa_nil)))
    (pss_cons (ps_expr (pe_call GA hr rfl mA kA bA .nil pass0 (pa_cons (pv 2) (pa_cons (pv 1) pa_nil))))
    (pss_one (ps_ret (pe_fld (pv 2) rfl)))), ?_⟩
  refine ⟨_, rfl, fun p dx np nd ndp => ⟨p, dx, g, B, rfl, upd_same, ?_, fun a b H1 na nb sx ch => ⟨rfl, ?_⟩⟩⟩
  · rw [upd_ne (ne_of_none hg np), upd_ne (ne_of_none hg nd)]
    exact hg
  have s0 : Same H (upd (upd H dx (.own p)) p (.ins C dx [])) := fun c o e => by
    rw [upd_ne (ne_of_none e np), upd_ne (ne_of_none e nd)]
    exact e
  have s1 : Same H H1 := fun c o e => sx c o (s0 c o e) (ne_of_none e np)
  refine ⟨_, rfl, _, rfl, p, a, b, l, B, xs, ds, rfl, ch, hB, s1 _ _ hl, s1.dds hd, hn, fun r b' rs H2 sx2 h1 h2 h3 ⟨ps, c2, ok⟩ => ?_⟩
  obtain ⟨⟨dy, g1⟩, g2, ys, g3, g4⟩ := c2
  exact ⟨_, rfl, p, C, dy, _, _, rfl, g1, cl, nB, flds_bridges _ _, q b' ys ps H2 (fun c o e => sx2 c o (s1 c o e) (ne_of_none e np)) g3 g4 ok⟩
theorem ok_deeds {f : Addr} {fd : FuncData} (F : Fun K "_law_deeds" "_law_deeds" sDeeds f fd) (yLen : mg "len" = none) (yRange : mg "range" = none) (hC : Has P w K mg base "_law_called" ["_law_k"] 1 spCalled) : FnOk P w K mg base CX0 2 f fd pDeeds (spDeeds K) := by
  obtain ⟨fC, fdC, GC, bC, kC, mC⟩ := hC
  refine F.ok scDeeds (fun vs H Q E h => ?_) (fun cdv A outer s H vs Q E hr h => ?_)
  · obtain ⟨c, ns, size, hop, rfl, _⟩ := h
    rfl
  obtain ⟨c, ns, size, hop, rfl, hS, hn, h1, h2, q⟩ := h
  have hl : (ns.map V.int).length = ns.length := List.length_map _
  have core : ∃ t, PSs (cxOf CX0 P w K mg base nDeeds "_law_deeds" (defScope sDeeds) f cdv A outer s H E).nox (forBody ((defBody sDeeds).getD 2 (.Pass ⟨0, 0, 0, 0⟩))) t ∧ ∀ (wl l : Addr) (Hw : Hp), SqL K Hw c (ns.map V.int) → Hw wl = some (.lst words7) → Hw l = none → ∀ (i : Nat) (D : Ends) (v6 v7 v8 : Option V) (H2 : Hp) (xs : List V) (ds : List Deed), i < ns.length → Same Hw H2 → H2 l = some (.lst xs) → Dds H2 xs ds → ds.length = i →
      (∀ σ' H', (∃ v5 v6 v7 v8 xs ds, σ' = [some (.ref c), some (.int size), some (.int hop), some (.ref wl), some (.ref l), v5, v6, v7, v8] ∧ Same Hw H' ∧ H' l = some (.lst xs) ∧ Dds H' xs ds ∧ ds.length = i + 1) → D.nx σ' H') →
      t D [some (.ref c), some (.int size), some (.int hop), some (.ref wl), some (.ref l), some (.int (0 + (i : Int))), v6, v7, v8] H2 := by
    have rest7 : ∃ t, PSs (cxOf CX0 P w K mg base nDeeds "_law_deeds" (defScope sDeeds) f cdv A outer s H E).nox ((forBody ((defBody sDeeds).getD 2 (.Pass ⟨0, 0, 0, 0⟩))).drop 7) t ∧ ∀ (wl l : Addr) (Hw : Hp), SqL K Hw c (ns.map V.int) → Hw wl = some (.lst words7) → Hw l = none → ∀ (i : Nat) (D : Ends) (rest one other : Int) (H2 : Hp) (xs : List V) (ds : List Deed), i < ns.length → Same Hw H2 → H2 l = some (.lst xs) → Dds H2 xs ds → ds.length = i →
        (∀ σ' H', (∃ v5 v6 v7 v8 xs ds, σ' = [some (.ref c), some (.int size), some (.int hop), some (.ref wl), some (.ref l), v5, v6, v7, v8] ∧ Same Hw H' ∧ H' l = some (.lst xs) ∧ Dds H' xs ds ∧ ds.length = i + 1) → D.nx σ' H') → t D [some (.ref c), some (.int size), some (.int hop), some (.ref wl), some (.ref l), some (.int (0 + (i : Int))), some (.int rest), some (.int one), some (.int other)] H2 := by
      refine ⟨_, pss_one (ps_expr (pe_bm PySem.F.plainAttrs_list PySem.F.slot_list_append PySem.F.type_list_append mt_append (pv 4) (pa_cons (pe_tup (pa_cons (pe_ix ix_list (pv 3) (pe_op op_mod (pe_ix ix_list (pv 0) (pv 5) (fun _ _ => rfl)) pe_int) (fun _ _ => rfl)) (pa_cons (pv 7) (pa_cons (pv 8) pa_nil)))) pa_nil))), ?_⟩
      intro wl l Hw cS hw nl i D rest one other H2 xs ds hi s2 hl hd len k
      have g : atI (ns.map V.int) (0 + (i : Int)) = some (.int (ns.getD (0 + (i : Int)).toNat 0)) := atI_ints (by omega) (by omega)
      obtain ⟨kd, hk⟩ := word7 (ns.getD (0 + (i : Int)).toNat 0)
      have dl : xs.length = ds.length := Paired.length hd
      refine ⟨_, rfl, .inl ⟨rfl, _, SqL.of hl⟩, _, rfl, _, rfl, _, rfl, c, _, _, _, rfl, rfl, s2.seq cS, g, _, _, rfl, rfl, (by show (0 : Int) < 7; decide), wl, _, _, _, rfl, rfl, SqL.of (s2 _ _ hw), hk, _, rfl, _, rfl, (by show 3 ≤ sizeLine; decide), fun t ht => ?_⟩
      have s3 := same_new ht (.tup [.str kd.word, .int one, .int other])
      refine ⟨l, _, _, rfl, rfl, s3 _ _ hl, (by have := sizeLine_eq; omega), k _ _ ⟨_, _, _, _, _, ds ++ [(kd, one, other)], rfl, same_put (s2.trans s3) nl _, upd_same, dds_put (s3 _ _ hl) ((s3.dds hd).snoc ⟨t, rfl, upd_same⟩) _, (by rw [List.length_append, List.length_singleton]; omega)⟩⟩
    obtain ⟨t7, hR7, q7⟩ := rest7
    have rest6 : ∃ t, PSs (cxOf CX0 P w K mg base nDeeds "_law_deeds" (defScope sDeeds) f cdv A outer s H E).nox ((forBody ((defBody sDeeds).getD 2 (.Pass ⟨0, 0, 0, 0⟩))).drop 6) t ∧ ∀ (wl l : Addr) (Hw : Hp), SqL K Hw c (ns.map V.int) → Hw wl = some (.lst words7) → Hw l = none → ∀ (i : Nat) (D : Ends) (rest one other : Int) (H2 : Hp) (xs : List V) (ds : List Deed), i < ns.length → Same Hw H2 → H2 l = some (.lst xs) → Dds H2 xs ds → ds.length = i →
        (∀ σ' H', (∃ v5 v6 v7 v8 xs ds, σ' = [some (.ref c), some (.int size), some (.int hop), some (.ref wl), some (.ref l), v5, v6, v7, v8] ∧ Same Hw H' ∧ H' l = some (.lst xs) ∧ Dds H' xs ds ∧ ds.length = i + 1) → D.nx σ' H') → t D [some (.ref c), some (.int size), some (.int hop), some (.ref wl), some (.ref l), some (.int (0 + (i : Int))), some (.int rest), some (.int one), some (.int other)] H2 := by
      refine ⟨_, pss_cons (ps_if (pt_cmpR op_eq (pe_op op_mod (pv 6) pe_int) pe_int (nomark _)) (pss_cons (ps_set (i := 7) scDeeds.nd rfl (Or.inl rfl) pe_int) (pss_one (ps_set (i := 8) scDeeds.nd rfl (Or.inl rfl) (pe_op op_add pe_int (pe_op op_mod (pv 5) pe_int))))) pss_nil) hR7, ?_⟩
      intro wl l Hw cS hw nl i D rest one other H2 xs ds hi s2 hl hd len k
      refine ⟨_, rfl, _, _, rfl, rfl, (by show (0 : Int) < 32; decide), rfl, _, rfl, ?_⟩
      exact ite2 (fun _ => ⟨_, rfl, _, _, rfl, rfl, (by show (0 : Int) < 2; decide), _, _, rfl, rfl, q7 wl l Hw cS hw nl i D rest _ _ H2 xs ds hi s2 hl hd len k⟩) (fun _ => q7 wl l Hw cS hw nl i D rest one other H2 xs ds hi s2 hl hd len k)
    obtain ⟨t6, hR6, q6⟩ := rest6
    have rest5 : ∃ t, PSs (cxOf CX0 P w K mg base nDeeds "_law_deeds" (defScope sDeeds) f cdv A outer s H E).nox ((forBody ((defBody sDeeds).getD 2 (.Pass ⟨0, 0, 0, 0⟩))).drop 5) t ∧ ∀ (wl l : Addr) (Hw : Hp), SqL K Hw c (ns.map V.int) → Hw wl = some (.lst words7) → Hw l = none → ∀ (i : Nat) (D : Ends) (rest one other : Int) (H2 : Hp) (xs : List V) (ds : List Deed), i < ns.length → Same Hw H2 → H2 l = some (.lst xs) → Dds H2 xs ds → ds.length = i →
        (∀ σ' H', (∃ v5 v6 v7 v8 xs ds, σ' = [some (.ref c), some (.int size), some (.int hop), some (.ref wl), some (.ref l), v5, v6, v7, v8] ∧ Same Hw H' ∧ H' l = some (.lst xs) ∧ Dds H' xs ds ∧ ds.length = i + 1) → D.nx σ' H') → t D [some (.ref c), some (.int size), some (.int hop), some (.ref wl), some (.ref l), some (.int (0 + (i : Int))), some (.int rest), some (.int one), some (.int other)] H2 := by
      refine ⟨_, pss_cons (ps_if (pt_cmpR op_eq (pe_op op_mod (pv 6) pe_int) pe_int (nomark _)) (pss_one (ps_set (i := 7) scDeeds.nd rfl (Or.inl rfl) (pv 8))) pss_nil) hR6, ?_⟩
      intro wl l Hw cS hw nl i D rest one other H2 xs ds hi s2 hl hd len k
      refine ⟨_, rfl, _, _, rfl, rfl, (by show (0 : Int) < 32; decide), rfl, _, rfl, ?_⟩
      exact ite2 (fun _ => ⟨_, rfl, q6 wl l Hw cS hw nl i D rest _ other H2 xs ds hi s2 hl hd len k⟩) (fun _ => q6 wl l Hw cS hw nl i D rest one other H2 xs ds hi s2 hl hd len k)
    obtain ⟨t5, hR5, q5⟩ := rest5
    have rest4 : ∃ t, PSs (cxOf CX0 P w K mg base nDeeds "_law_deeds" (defScope sDeeds) f cdv A outer s H E).nox ((forBody ((defBody sDeeds).getD 2 (.Pass ⟨0, 0, 0, 0⟩))).drop 4) t ∧ ∀ (wl l : Addr) (Hw : Hp), SqL K Hw c (ns.map V.int) → Hw wl = some (.lst words7) → Hw l = none → ∀ (i : Nat) (D : Ends) (rest one other : Int) (H2 : Hp) (xs : List V) (ds : List Deed), i < ns.length → Same Hw H2 → H2 l = some (.lst xs) → Dds H2 xs ds → ds.length = i →
        (∀ σ' H', (∃ v5 v6 v7 v8 xs ds, σ' = [some (.ref c), some (.int size), some (.int hop), some (.ref wl), some (.ref l), v5, v6, v7, v8] ∧ Same Hw H' ∧ H' l = some (.lst xs) ∧ Dds H' xs ds ∧ ds.length = i + 1) → D.nx σ' H') → t D [some (.ref c), some (.int size), some (.int hop), some (.ref wl), some (.ref l), some (.int (0 + (i : Int))), some (.int rest), some (.int one), some (.int other)] H2 := by
      refine ⟨_, pss_cons (ps_if (pt_cmpR op_eq (pe_op op_mod (pv 6) pe_int) pe_int (nomark _)) (pss_one (ps_set (i := 8) scDeeds.nd rfl (Or.inl rfl) pe_int)) pss_nil) hR5, ?_⟩
      intro wl l Hw cS hw nl i D rest one other H2 xs ds hi s2 hl hd len k
      refine ⟨_, rfl, _, _, rfl, rfl, (by show (0 : Int) < 32; decide), rfl, _, rfl, ?_⟩
      exact ite2 (fun _ => q5 wl l Hw cS hw nl i D rest one _ H2 xs ds hi s2 hl hd len k) (fun _ => q5 wl l Hw cS hw nl i D rest one other H2 xs ds hi s2 hl hd len k)
    obtain ⟨t4, hR4, q4⟩ := rest4
    have rest3 : ∃ t, PSs (cxOf CX0 P w K mg base nDeeds "_law_deeds" (defScope sDeeds) f cdv A outer s H E).nox ((forBody ((defBody sDeeds).getD 2 (.Pass ⟨0, 0, 0, 0⟩))).drop 3) t ∧ ∀ (wl l : Addr) (Hw : Hp), SqL K Hw c (ns.map V.int) → Hw wl = some (.lst words7) → Hw l = none → ∀ (i : Nat) (D : Ends) (rest one other : Int) (H2 : Hp) (xs : List V) (ds : List Deed), i < ns.length → Same Hw H2 → H2 l = some (.lst xs) → Dds H2 xs ds → ds.length = i →
        (∀ σ' H', (∃ v5 v6 v7 v8 xs ds, σ' = [some (.ref c), some (.int size), some (.int hop), some (.ref wl), some (.ref l), v5, v6, v7, v8] ∧ Same Hw H' ∧ H' l = some (.lst xs) ∧ Dds H' xs ds ∧ ds.length = i + 1) → D.nx σ' H') → t D [some (.ref c), some (.int size), some (.int hop), some (.ref wl), some (.ref l), some (.int (0 + (i : Int))), some (.int rest), some (.int one), some (.int other)] H2 := by
      refine ⟨_, pss_cons (ps_if (pt_cmpR op_gt (pe_op op_mod (pe_ix ix_list (pv 0) (pv 5) (fun _ _ => rfl)) pe_int) pe_int (nomark _)) (pss_one (ps_set (i := 8) scDeeds.nd rfl (Or.inl rfl) (pe_call GC hr rfl mC kC bC .nil pass0 (pa_cons (pe_op op_mod (pe_op op_fdiv (pv 6) pe_int) (pv 1)) pa_nil))))
        (pss_one (ps_if (PW.pt (pw_and (pt_cmpR op_gt (pe_op op_mod (pe_ix ix_list (pv 0) (pv 5) (fun _ _ => rfl)) pe_int) pe_int (nomark _)) (pw_and1 (pt_cmpR op_gt (pv 5) pe_int (nomark _))))) (pss_cons (ps_set (i := 7) scDeeds.nd rfl (Or.inl rfl) (pe_ix ix_tup (pe_ix ix_list (pv 4) (pe_op op_mod (pv 6) (pv 5)) (fun _ _ => rfl)) pe_int (fun _ _ => rfl))) (pss_one (ps_set (i := 8) scDeeds.nd rfl (Or.inl rfl) (pe_ix ix_tup (pe_ix ix_list (pv 4) (pe_op op_mod (pv 6) (pv 5)) (fun _ _ => rfl)) pe_int (fun _ _ => rfl))))) pss_nil))) hR4, ?_⟩
      intro wl l Hw cS hw nl i D rest one other H2 xs ds hi s2 hl hd len k
      have g : atI (ns.map V.int) (0 + (i : Int)) = some (.int (ns.getD (0 + (i : Int)).toNat 0)) := atI_ints (by omega) (by omega)
      have dl : xs.length = ds.length := Paired.length hd
      refine ⟨_, rfl, _, rfl, c, _, _, _, rfl, rfl, s2.seq cS, g, _, _, rfl, rfl, (by show (0 : Int) < 7; decide), _, _, rfl, rfl, _, rfl, ?_⟩
      refine ite2 (fun _ => ⟨_, rfl, _, _, rfl, rfl, ⟨by decide, by decide⟩, _, rfl, _, _, rfl, rfl, (by omega), _, rfl, Int.emod_nonneg _ (by omega), q4 wl l Hw cS hw nl i D rest one _ H2 xs ds hi s2 hl hd len k⟩) (fun _ => ?_)
      dsimp only [gName, tSeq, tNext]
      refine ifs_and (b1 := decide (2 < ns.getD (0 + (i : Int)).toNat 0 % 7)) (b2 := decide ((0 : Int) < 0 + (i : Int))) (fun Q q => ⟨_, rfl, _, rfl, c, _, _, _, rfl, rfl, s2.seq cS, g, _, _, rfl, rfl, (by show (0 : Int) < 7; decide), _, _, rfl, rfl, _, rfl, q⟩) (fun Q q => ⟨_, rfl, _, _, rfl, rfl, _, rfl, q⟩) ?_
      refine ite2 (fun z => ?_) (fun _ => q4 wl l Hw cS hw nl i D rest one other H2 xs ds hi s2 hl hd len k)
      rw [Bool.and_eq_true] at z
      have zi : (0 : Int) < 0 + (i : Int) := of_decide_eq_true z.2
      have m0 : 0 ≤ rest % (0 + (i : Int)) := Int.emod_nonneg _ (by omega)
      have m1 : rest % (0 + (i : Int)) < 0 + (i : Int) := Int.emod_lt_of_pos _ zi
      obtain ⟨v, hv1, hv2⟩ := atI_of (xs := xs) (k := rest % (0 + (i : Int))) m0 (by omega)
      obtain ⟨d, _, t, rfl, ht⟩ := hd.get hv2
      refine ⟨_, rfl, _, rfl, _, rfl, _, _, rfl, rfl, zi, l, _, _, _, rfl, rfl, SqL.of hl, hv1, t, _, _, _, rfl, rfl, SqT.of ht, rfl, ?_⟩
      exact ⟨_, rfl, _, rfl, _, rfl, _, _, rfl, rfl, zi, l, _, _, _, rfl, rfl, SqL.of hl, hv1, t, _, _, _, rfl, rfl, SqT.of ht, rfl, q4 wl l Hw cS hw nl i D rest _ _ H2 xs ds hi s2 hl hd len k⟩
    obtain ⟨t3, hR3, q3⟩ := rest3
    refine ⟨_, pss_cons (ps_set (i := 6) scDeeds.nd rfl (Or.inl rfl) (pe_op op_fdiv (pe_ix ix_list (pv 0) (pv 5) (fun _ _ => rfl)) pe_int))
      (pss_cons (ps_set (i := 7) scDeeds.nd rfl (Or.inl rfl) (pe_call GC hr rfl mC kC bC .nil pass0 (pa_cons (pe_op op_mod (pe_op op_add (pv 6) (pv 5)) (pv 1)) pa_nil)))
      (pss_cons (ps_set (i := 8) scDeeds.nd rfl (Or.inl rfl) (pe_call GC hr rfl mC kC bC .nil pass0 (pa_cons (pe_op op_mod (pe_op op_add (pe_op op_add (pe_op op_add (pv 6) (pv 5)) pe_int) (pe_op op_mod (pe_op op_fdiv (pv 6) pe_int) (pv 2))) (pv 1)) pa_nil))) hR3)), ?_⟩
    intro wl l Hw cS hw nl i D v6 v7 v8 H2 xs ds hi s2 hl hd len k
    have g : atI (ns.map V.int) (0 + (i : Int)) = some (.int (ns.getD (0 + (i : Int)).toNat 0)) := atI_ints (by omega) (by omega)
    refine ⟨_, rfl, _, rfl, c, _, _, _, rfl, rfl, s2.seq cS, g, _, _, rfl, rfl, ⟨by decide, by decide⟩, ?_⟩
    refine ⟨_, rfl, _, rfl, _, _, rfl, rfl, _, rfl, _, _, rfl, rfl, (by omega), _, rfl, Int.emod_nonneg _ (by omega), ?_⟩
    refine ⟨_, rfl, _, rfl, _, _, rfl, rfl, _, _, rfl, rfl, _, rfl, _, _, rfl, rfl, ⟨by decide, by decide⟩, _, rfl, _, _, rfl, rfl, (by omega), _, _, rfl, rfl, _, rfl, _, _, rfl, rfl, (by omega), _, rfl, Int.emod_nonneg _ (by omega), ?_⟩
    exact q3 wl l Hw cS hw nl i D _ _ _ H2 xs ds hi s2 hl hd len k
  obtain ⟨tB, hB, qB⟩ := core
  refine ⟨_, pss_cons (ps_set (i := 3) scDeeds.nd rfl (Or.inl rfl) (pe_lst (pa_cons pe_str (pa_cons pe_str (pa_cons pe_str (pa_cons pe_str (pa_cons pe_str (pa_cons pe_str (pa_cons pe_str pa_nil)))))))))
    (pss_cons (ps_set (i := 4) scDeeds.nd rfl (Or.inl rfl) (pe_lst pa_nil))
    (pss_cons (ps_for PassesOwn.never rfl (pi_range1 rfl yRange (pa_cons (pe_callB call_len_seq rfl yLen bt_len (pa_cons (pv 0) pa_nil)) pa_nil)) (pg_name (i := 5) scDeeds.nd rfl (Or.inl rfl)) hB)
    (pss_one (ps_ret (pv 4))))), ?_⟩
  refine ⟨(by show 7 ≤ sizeLine; decide), fun wl hwl => ?_⟩
  have sw := same_new hwl (.lst words7)
  have hw : (upd H wl (.lst words7)) wl = some (.lst words7) := upd_same
  have cS := sw.seq hS
  generalize upd H wl (.lst words7) = Hw at sw hw cS
  refine ⟨(by show 0 ≤ sizeLine; decide), fun l nl => ?_⟩
  have s1 := same_new nl (.lst [])
  refine ⟨_, rfl, c, _, rfl, .inl (s1.seq cS), _, rfl, (by omega), (by rw [hl]; omega), for_range (lo := 0) (n := ((((ns.map V.int).length : Nat) : Int)).toNat)
    (fun i σ H2 => ∃ v5 v6 v7 v8 xs ds, σ = [some (.ref c), some (.int size), some (.int hop), some (.ref wl), some (.ref l), v5, v6, v7, v8] ∧ Same Hw H2 ∧ H2 l = some (.lst xs) ∧ Dds H2 xs ds ∧ ds.length = i)
    ⟨none, none, none, none, [], [], rfl, s1, upd_same, .nil, rfl⟩ ?_ ?_⟩
  · rintro i σ H2 hi ⟨v5, v6, v7, v8, xs, ds, rfl, s2, k1, k2, k3⟩
    rw [hl] at hi
    exact qB wl l Hw cS hw nl i _ v6 v7 v8 H2 xs ds (by omega) s2 k1 k2 k3 (fun _ _ z => z)
  · rintro σ H2 ⟨v5, v6, v7, v8, xs, ds, rfl, s2, k1, k2, k3⟩
    rw [hl] at k3
    exact ⟨_, rfl, q l xs ds H2 (sw.trans s2) (sw.free nl) k1 k2 (by omega)⟩
theorem ok_stays {f : Addr} {fd : FuncData} (F : Fun K "_law_stays" "_law_stays" sStays f fd) (yIs : mg "isinstance" = none) (yTup : mg "tuple" = none) (yLen : mg "len" = none) (yStr : mg "str" = none) (hW : Has P w K mg base "_law_whole" ["_law_found"] 1 spWhole) : FnOk P w K mg base CX0 2 f fd pStays spStays := by
  obtain ⟨fW, fdW, GW, bW, kW, mW⟩ := hW
  refine F.ok scStays (fun vs H Q E h => ?_) (fun cdv A outer s H vs Q E hr h => ?_)
  · obtain ⟨a, b, xs, ds, rfl, _⟩ := h
    rfl
  obtain ⟨a, b, xs, ds, rfl, ha, hb, hd, hn, q⟩ := h
  have hu := hu_of hr
  refine ⟨_, pss_cons (ps_if (pt_cmpR op_ne (pe_callB call_len_seq rfl yLen bt_len (pa_cons (pv 0) pa_nil)) (pe_callB call_len_seq rfl yLen bt_len (pa_cons (pv 1) pa_nil)) (nomark _)) (pss_one (ps_ret pe_bl)) pss_nil)
    (pss_cons (ps_for PassesOwn.never rfl (pi_list (pv 0)) (pg_name (i := 2) scStays.nd rfl (Or.inl rfl))
      (pss_cons (ps_if (PW.pt (pw_or (pt_not (pt_val (pe_callB call_isi rfl yIs bt_isinstance (pa_cons (pv 2) (pa_cons (pe_bltn (v := .ty "tuple") rfl yTup bt_tuple rfl) pa_nil)))))
        (pw_or (pt_cmpR op_ne (pe_callB call_len_seq rfl yLen bt_len (pa_cons (pv 2) pa_nil)) pe_int (nomark _)) (pw_or1 (pt_not (pt_val (pe_callB call_isi rfl yIs bt_isinstance (pa_cons (pe_ix ix_tup (pv 2) pe_int (fun _ _ => rfl)) (pa_cons (pe_bltn (v := .ty "str") rfl yStr bt_str rfl) pa_nil))))))))) (pss_one (ps_ret pe_bl)) pss_nil)
      (pss_one (ps_if (PW.pt (pw_or (pt_not (pt_val (pe_call GW hr rfl mW kW bW .nil pass0 (pa_cons (pe_ix ix_tup (pv 2) pe_int (fun _ _ => rfl)) pa_nil)))) (pw_or1 (pt_not (pt_val (pe_call GW hr rfl mW kW bW .nil pass0 (pa_cons (pe_ix ix_tup (pv 2) pe_int (fun _ _ => rfl)) pa_nil))))))) (pss_one (ps_ret pe_bl)) pss_nil))))
    (pss_one (ps_ret (pe_cmpR (op_eqSame (Nat.lt_of_succ_lt hu)) (pv 0) (pv 1) (nomark _))))), ?_⟩
  refine ⟨_, rfl, a, _, rfl, .inl (SqL.of ha), _, rfl, b, _, rfl, .inl (SqL.of hb), rfl, _, rfl, ?_⟩
  refine iteNS rfl ?_
  refine ⟨_, rfl, a, rfl, ⟨_, SqL.of ha⟩, for_list (K := K) (a := a) (xs := xs) (fun i σ H2 => ∃ v, σ = [some (.ref a), some (.ref b), v] ∧ H2 = H) ⟨none, rfl, rfl⟩ (fun i σ H2 _ ⟨_, _, e⟩ => by rw [e]; exact SqL.of ha) ?_ ?_⟩
  · rintro i y σ H2 hi ⟨v, rfl, rfl⟩
    obtain ⟨d, _, t, rfl, ht⟩ := hd.get hi
    refine ⟨_, rfl, _, "tuple", _, true, rfl, .tup ht, rfl, _, rfl, iteF ?_⟩
    refine ⟨_, rfl, t, _, rfl, .inr (SqT.of ht), rfl, _, rfl, ?_⟩
    refine iteNS rfl ?_
    refine ⟨_, rfl, t, _, _, _, rfl, rfl, SqT.of ht, rfl, _, "str", _, true, rfl, .str _, rfl, _, rfl, iteF ?_⟩
    refine ⟨_, rfl, t, _, _, _, rfl, rfl, SqT.of ht, rfl, _, rfl, _, rfl, iteF ?_⟩
    refine ⟨_, rfl, t, _, _, _, rfl, rfl, SqT.of ht, rfl, _, rfl, _, rfl, iteF ?_⟩
    exact ⟨_, rfl, rfl⟩
  · rintro σ H2 ⟨v, rfl, rfl⟩
    exact ⟨_, rfl, _, rfl, a, b, xs, rfl, rfl, SqL.of ha, SqL.of hb, hd.refs, q⟩
theorem ok_word {f : Addr} {fd : FuncData} (F : Fun K "_law_word" "_law_word" sWord f fd) (yInt : mg "int" = none) : FnOk P w K mg base CX0 1 f fd pWord (spWord K) := by
  refine F.ok scWord (fun vs H Q E h => ?_) (fun cdv A outer s H vs Q E hr h => ?_)
  · obtain ⟨pl, bl, t, B, ys, qs, d, rfl, _⟩ := h
    rfl
  obtain ⟨pl, bl, t, B, ys, qs, ⟨k, x, y⟩, rfl, hpl, hbl, hP, hle, ht, q⟩ := h
  have hu := hu_of hr
  have rest4 : ∃ tt, PSs (cxOf CX0 P w K mg base nWord "_law_word" (defScope sWord) f cdv A outer s H E).nox ((defBody sWord).drop 4) tt ∧
      ∀ (H' : Hp) (here : Bool), Same H H' → here = decide (bdg x y ∈ qs) → (x ∈ B ∧ y ∈ B) → ¬ k = .way → ¬ x = y → tt { nx := fun _ H' => Q .non H', rt := Q } [some (.ref pl), some (.ref bl), some (.ref t), some (.bl here)] H' := by
    refine ⟨_, pss_cons (ps_if (PW.pt (pw_and (pt_cmpR op_eq (pe_ix ix_tup (pv 2) pe_int (fun _ _ => rfl)) pe_str (nomark _)) (pw_and1 (pt_val (pv 3))))) (pss_one (ps_ret pe_str)) pss_nil)
    (pss_cons (ps_if (PW.pt (pw_and (pt_cmpR op_eq (pe_ix ix_tup (pv 2) pe_int (fun _ _ => rfl)) pe_str (nomark _)) (pw_and1 (pt_not (pt_val (pv 3)))))) (pss_one (ps_ret pe_str)) pss_nil)
    (pss_one (ps_ret (pe_ix ix_list (pe_lst (pa_cons pe_str (pa_cons pe_str pa_nil))) (pe_callTy call_int1 rfl yInt bt_int (pa_cons (pe_cmpR op_eq (pe_ix ix_tup (pv 2) pe_int (fun _ _ => rfl)) pe_str (nomark _)) pa_nil)) (fun _ _ => rfl))))), ?_⟩
    intro H' here s' eh hB hk nxy
    have ht' := s' _ _ ht
    cases k with
    | way => exact absurd rfl hk
    | build =>
      dsimp only [gName, tSeq, tNext]
      refine ifs_and (b1 := true) (b2 := here) (fun Q q => ⟨_, rfl, t, _, _, _, rfl, rfl, SqT.of ht', rfl, rfl, _, rfl, q⟩) (fun Q q => ⟨_, rfl, _, rfl, q⟩) ?_
      refine ite2 (fun c => ?_) (fun c => ?_)
      · have m : bdg x y ∈ qs := of_decide_eq_true (eh ▸ c)
        have e : out B qs (Kd.build, x, y) = .stands := by
          unfold out
          rw [if_pos hB, if_neg hk, if_neg nxy, if_pos rfl, if_pos m]
        rw [e] at q
        exact q H' s'
      · have m : bdg x y ∉ qs := fun z => c (by rw [eh, decide_eq_true z]; rfl)
        have e : out B qs (Kd.build, x, y) = .built := by
          unfold out
          rw [if_pos hB, if_neg hk, if_neg nxy, if_pos rfl, if_neg m]
        rw [e] at q
        dsimp only [tSeq, tNext]
        refine ifs_and (b1 := false) (b2 := !here) (fun Q q => ⟨_, rfl, t, _, _, _, rfl, rfl, SqT.of ht', rfl, rfl, _, rfl, q⟩) (fun Q q => ⟨_, rfl, _, rfl, q⟩) (iteF ?_)
        refine ⟨(by show 2 ≤ sizeLine; decide), fun l hl => ?_⟩
        have s2 := same_new hl (.lst [.str (Str.ofString "pulled"), .str (Str.ofString "built")])
        refine ⟨_, rfl, t, _, _, _, rfl, rfl, SqT.of (s2 _ _ ht'), rfl, rfl, .inr ⟨_, rfl, l, _, _, _, rfl, rfl, SqL.of upd_same, rfl, q _ (s'.trans s2)⟩⟩
    | pull =>
      dsimp only [gName, tSeq, tNext]
      refine ifs_and (b1 := false) (b2 := here) (fun Q q => ⟨_, rfl, t, _, _, _, rfl, rfl, SqT.of ht', rfl, rfl, _, rfl, q⟩) (fun Q q => ⟨_, rfl, _, rfl, q⟩) (iteF ?_)
      dsimp only [tSeq, tNext]
      refine ifs_and (b1 := true) (b2 := !here) (fun Q q => ⟨_, rfl, t, _, _, _, rfl, rfl, SqT.of ht', rfl, rfl, _, rfl, q⟩) (fun Q q => ⟨_, rfl, _, rfl, q⟩) ?_
      refine ite2 (fun c => ?_) (fun c => ?_)
      · have m : bdg x y ∉ qs := fun z => by
          rw [eh, decide_eq_true z] at c
          cases c
        have e : out B qs (Kd.pull, x, y) = .noBridge := by
          unfold out
          rw [if_pos hB, if_neg hk, if_neg nxy, if_neg (fun z => nomatch z), if_neg m]
        rw [e] at q
        exact q H' s'
      · have m : bdg x y ∈ qs := by
          by_cases z : bdg x y ∈ qs
          · exact z
          · exact absurd (by rw [eh, decide_eq_false z]; rfl) c
        have e : out B qs (Kd.pull, x, y) = .pulled := by
          unfold out
          rw [if_pos hB, if_neg hk, if_neg nxy, if_neg (fun z => nomatch z), if_pos m]
        rw [e] at q
        refine ⟨(by show 2 ≤ sizeLine; decide), fun l hl => ?_⟩
        have s2 := same_new hl (.lst [.str (Str.ofString "pulled"), .str (Str.ofString "built")])
        refine ⟨_, rfl, t, _, _, _, rfl, rfl, SqT.of (s2 _ _ ht'), rfl, rfl, .inr ⟨_, rfl, l, _, _, _, rfl, rfl, SqL.of upd_same, rfl, q _ (s'.trans s2)⟩⟩
  obtain ⟨t4, hR4, q4⟩ := rest4
  refine ⟨_, pss_cons (ps_if (PW.pt (pw_or (pt_cmpR op_notIn_seq (pe_ix ix_tup (pv 2) pe_int (fun _ _ => rfl)) (pv 0) rfl) (pw_or1 (pt_cmpR op_notIn_seq (pe_ix ix_tup (pv 2) pe_int (fun _ _ => rfl)) (pv 0) rfl)))) (pss_one (ps_ret pe_str)) pss_nil)
    (pss_cons (ps_if (pt_cmpR op_eq (pe_ix ix_tup (pv 2) pe_int (fun _ _ => rfl)) pe_str (nomark _)) (pss_one (ps_ret pe_str)) pss_nil)
    (pss_cons (ps_if (pt_cmpR op_eq (pe_ix ix_tup (pv 2) pe_int (fun _ _ => rfl)) (pe_ix ix_tup (pv 2) pe_int (fun _ _ => rfl)) (nomark _)) (pss_one (ps_ret pe_str)) pss_nil)
    (pss_cons (ps_set (i := 3) scWord.nd rfl (Or.inl rfl) (pe_or (pe_cmpR (op_inP hu) (pe_tup (pa_cons (pe_ix ix_tup (pv 2) pe_int (fun _ _ => rfl)) (pa_cons (pe_ix ix_tup (pv 2) pe_int (fun _ _ => rfl)) pa_nil))) (pv 1) rfl) (pe_one (pe_cmpR (op_inP hu) (pe_tup (pa_cons (pe_ix ix_tup (pv 2) pe_int (fun _ _ => rfl)) (pa_cons (pe_ix ix_tup (pv 2) pe_int (fun _ _ => rfl)) pa_nil))) (pv 1) rfl))))
    hR4))), ?_⟩
  dsimp only [gName, tSeq, tNext]
  refine ifs_or (b1 := !decide (x ∈ B)) (b2 := !decide (y ∈ B)) (fun Q q => ⟨_, rfl, t, _, _, _, rfl, rfl, SqT.of ht, rfl, _, rfl, pl, _, rfl, .inl hpl, rfl, flat_ints B, _, rfl, ?_⟩) (fun Q q => ⟨_, rfl, t, _, _, _, rfl, rfl, SqT.of ht, rfl, _, rfl, pl, _, rfl, .inl hpl, rfl, flat_ints B, _, rfl, ?_⟩) ?_
  · rw [notIn_dec (K := K)]
    exact q
  · rw [notIn_dec (K := K)]
    exact q
  by_cases hB : x ∈ B ∧ y ∈ B
  case neg =>
    have e : out B qs (k, x, y) = .noPlace := if_neg hB
    rw [e] at q
    have c : (!decide (x ∈ B) || !decide (y ∈ B)) = true := by
      by_cases h1 : x ∈ B
      · rw [decide_eq_false (show ¬ y ∈ B from fun h2 => hB ⟨h1, h2⟩), Bool.or_comm]
        rfl
      · rw [decide_eq_false h1]
        rfl
    rw [c]
    exact iteT (q H (Same.refl H))
  rw [decide_eq_true hB.1, decide_eq_true hB.2]
  refine iteF ?_
  refine ⟨_, rfl, t, _, _, _, rfl, rfl, SqT.of ht, rfl, rfl, _, rfl, ?_⟩
  by_cases hk : k = .way
  case pos =>
    subst hk
    have e : out B qs (Kd.way, x, y) = .way := by
      unfold out
      rw [if_pos hB, if_pos rfl]
    rw [e] at q
    exact iteT (q H (Same.refl H))
  have nw : decide (V.str k.word = V.str (Str.ofString "way")) = false := by
    cases k with
    | build => rfl
    | pull => rfl
    | way => exact absurd rfl hk
  rw [show decide (V.str (k, x, y).1.word = V.str (Str.ofString "way")) = false from nw]
  refine iteF ?_
  refine ⟨_, rfl, t, _, _, _, rfl, rfl, SqT.of ht, rfl, _, rfl, t, _, _, _, rfl, rfl, SqT.of ht, rfl, rfl, _, rfl, ?_⟩
  refine ite2 (fun c => ?_) (fun c => ?_)
  · have exy : x = y := V.int.inj (of_decide_eq_true c)
    have e : out B qs (k, x, y) = .onePlace := by
      unfold out
      rw [if_pos hB, if_neg hk, if_pos exy]
    rw [e] at q
    exact q H (Same.refl H)
  have nxy : ¬ x = y := fun z => c (decide_eq_true (by rw [z]))
  have bm : decide (bdg x y ∈ qs) = (decide ((x, y) ∈ qs) || decide ((y, x) ∈ qs)) := by
    rw [← Bool.decide_or, decide_eq_decide]
    exact bdg_mem hle
  refine ⟨_, rfl, t, _, _, _, rfl, rfl, SqT.of ht, rfl, _, rfl, t, _, _, _, rfl, rfl, SqT.of ht, rfl, (by show 2 ≤ sizeLine; decide), fun t1 ht1 => ?_⟩
  have s1 := same_new ht1 (.tup [.int x, .int y])
  refine ⟨_, rfl, t1, bl, (x, y), ys, qs, rfl, rfl, upd_same, s1.seq hbl, s1.prs hP, _, rfl, ?_⟩
  refine ite2 (fun c1 => ?_) (fun c1 => ?_)
  · refine q4 _ true s1 ?_ hB hk nxy
    rw [bm, show decide ((x, y) ∈ qs) = true from c1]
    rfl
  have ht' := s1 _ _ ht
  have hbl' := s1.seq hbl
  have hP' := s1.prs hP
  generalize upd H t1 (.tup [.int x, .int y]) = H1 at s1 ht' hbl' hP'
  refine ⟨_, rfl, t, _, _, _, rfl, rfl, SqT.of ht', rfl, _, rfl, t, _, _, _, rfl, rfl, SqT.of ht', rfl, (by show 2 ≤ sizeLine; decide), fun t2 ht2 => ?_⟩
  have s2 := same_new ht2 (.tup [.int y, .int x])
  refine ⟨_, rfl, t2, bl, (y, x), ys, qs, rfl, rfl, upd_same, s2.seq hbl', s2.prs hP', ?_⟩
  refine q4 _ _ (s1.trans s2) ?_ hB hk nxy
  rw [bm, show decide ((x, y) ∈ qs) = false from Bool.eq_false_iff.mpr c1]
  rfl
theorem ok_law {f C fI : Addr} {fd fdI : FuncData} (F : Fun K "law" "law" sLaw f fd) (yRange : mg "range" = none) (yList : mg "list" = none) (yMin : mg "min" = none) (yMax : mg "max" = none) (ySorted : mg "sorted" = none) (mCh : mg "Chart" = some (.ref C)) (cl : Cls K C) (nB : NoAttr K C "bridges") (M : Mk K C fI) (GI : FnOk P w K mg base CX0 1 fI fdI pChartInit (spInit C)) (bI : Binds K fdI pChartInit [])
    (hA : Has P w K mg base "_law_at" ["_law_script", "_law_k"] 1 (spAt K)) (hU : Has P w K mg base "_law_upto" ["_law_script", "_law_small", "_law_great"] 1 (spUpto K)) (hC : Has P w K mg base "_law_called" ["_law_k"] 1 spCalled)
    (hD : Has P w K mg base "_law_deeds" ["_law_cells", "_law_size", "_law_hop"] 2 (spDeeds K)) (hW : Has P w K mg base "standing" ["places", "deeds"] 7 spStanding) (hNu : Has P w K mg base "_law_numbers" ["_law_found", "_law_due"] 2 (spNumbers K)) (hSt : Has P w K mg base "_law_stays" ["_law_handed", "_law_asked"] 2 spStays)
    (hWo : Has P w K mg base "_law_word" ["_law_places", "_law_bridges", "_law_deed"] 1 (spWord K)) (hHa : Has P w K mg base "_law_by_hand" ["_law_chart", "_law_deed"] 4 (spHand C)) (hPa : Has P w K mg base "_law_pairs" ["_law_found", "_law_due"] 2 spPairs2) :
    FnOk P w K mg base CX0 8 f fd pLaw (spLaw K) := by
  obtain ⟨fA, fdA, GA, bA, kA, mA⟩ := hA
  obtain ⟨fU, fdU, GU, bU, kU, mU⟩ := hU
  obtain ⟨fC, fdC, GC, bC, kC, mC⟩ := hC
  obtain ⟨fD, fdD, GD, bD, kD, mD⟩ := hD
  obtain ⟨fW, fdW, GW, bW, kW, mW⟩ := hW
  obtain ⟨fN, fdN, GN, bN, kN, mN⟩ := hNu
  obtain ⟨fS, fdS, GS, bS, kS, mS⟩ := hSt
  obtain ⟨fR, fdR, GR, bR, kR, mR⟩ := hWo
  obtain ⟨fO, fdO, GO, bO, kO, mO⟩ := hHa
  obtain ⟨fP, fdP, GP, bP, kP, mP⟩ := hPa
  refine F.ok scLaw (fun vs H Q E h => ?_) (fun cdv A outer s H vs Q E hr h => ?_)
  · obtain ⟨a, ns, rfl, _⟩ := h
    rfl
  obtain ⟨a0, ns, rfl, hS, h63, q⟩ := h
  have hr1 := hr.mono (show 1 ≤ 7 by decide)
  have hr2 := hr.mono (show 2 ≤ 7 by decide)
  have hrm := hr.mono (show 1 + 1 ≤ 7 by decide)
  have hr4 := hr.mono (show 4 ≤ 7 by decide)
  have hu := hu_of hr
  -- the loop's body, from its end
  have body4 : ∃ t, PSs (cxOf CX0 P w K mg base nLaw "law" (defScope sLaw) f cdv A outer s H E).nox ((forBody ((defBody sLaw).getD 15 (.Pass ⟨0, 0, 0, 0⟩))).drop 4) t ∧ ∀ (p a b lb : Addr) (B : List Int) (ps qs : List (Int × Int)) (D : Ends) (v0 v1 v2 v3 v4 v5 v6 v7 v8 v9 v11 v13 v14 : Option V) (H2 : Hp) (ys : List V), ChartAt C H2 p a b B ps → ChOk ps qs → qs.length < 64 → H2 lb = some (.lst ys) → Prs H2 ys qs →
      (∀ H', Same H2 H' → D.nx [v0, v1, v2, v3, v4, v5, v6, v7, v8, v9, some (.ref p), v11, some (.ref lb), v13, v14, none] H') → t D [v0, v1, v2, v3, v4, v5, v6, v7, v8, v9, some (.ref p), v11, some (.ref lb), v13, v14, none] H2 := by
    refine ⟨_, pss_one (ps_if (pt_not (pt_val (pe_call GP hr2 rfl mP kP bP .nil pass0 (pa_cons (pe_fld (pv 10) rfl) (pa_cons (pe_callB call_sortedPairs rfl ySorted bt_sorted (pa_cons (pv 12) pa_nil)) pa_nil))))) (pss_one (ps_ret pe_bl)) pss_nil), ?_⟩
    intro p a b lb B ps qs D v0 v1 v2 v3 v4 v5 v6 v7 v8 v9 v11 v13 v14 H2 ys hc ok len hl hP k
    obtain ⟨⟨dx, h1⟩, h2, xs, h3, h4⟩ := id hc
    have pl := ok.pm.length_eq
    refine ⟨_, rfl, p, C, dx, _, _, rfl, h1, cl, nB, flds_bridges _ _, _, rfl, lb, ys, qs, rfl, SqL.of hl, hP, len, fun e vs' ps' he pr pm pw => ?_⟩
    have e1 : ps' = ps := sorted_same (pm.trans ok.pm.symm) pw ok.or
    subst e1
    have s2 := same_new he (.lst vs')
    exact ⟨b, e, xs, vs', ps', rfl, s2 _ _ h3, upd_same, s2.prs h4, s2.prs pr, (by omega), _, rfl, iteF (k _ s2)⟩
  obtain ⟨t4, hR4, q4⟩ := body4
  have body2 : ∃ t, PSs (cxOf CX0 P w K mg base nLaw "law" (defScope sLaw) f cdv A outer s H E).nox ((forBody ((defBody sLaw).getD 15 (.Pass ⟨0, 0, 0, 0⟩))).drop 2) t ∧ ∀ (p a b lb t' : Addr) (B : List Int) (ps qs : List (Int × Int)) (d : Deed) (D : Ends) (v0 v1 v2 v3 v4 v5 v6 v7 v8 v9 v11 : Option V) (H1 H2 : Hp) (ys : List V), SameX p H1 H2 → H1 lb = none → ChartAt C H2 p a b B ps → ChOk ps (stepQ B qs d) → qs.length < 63 → a ≠ lb → b ≠ lb → H2 lb = some (.lst ys) → Prs H2 ys qs → H2 t' = some (.tup [.str d.1.word, .int d.2.1, .int d.2.2]) →
      (∀ v H' ys', SameX p H1 H' → H' lb = some (.lst ys') → Prs H' ys' (stepQ B qs d) → (∃ ps, ChartAt C H' p a b B ps ∧ ChOk ps (stepQ B qs d)) → D.nx [v0, v1, v2, v3, v4, v5, v6, v7, v8, v9, some (.ref p), v11, some (.ref lb), some (.ref t'), v, none] H') → t D [v0, v1, v2, v3, v4, v5, v6, v7, v8, v9, some (.ref p), v11, some (.ref lb), some (.ref t'), some (.str (out B qs d).text), none] H2 := by
    refine ⟨_, pss_cons (ps_if (pt_cmpR op_eq (pv 14) pe_str (nomark _)) (pss_one (ps_expr (pe_bm PySem.F.plainAttrs_list PySem.F.slot_list_append PySem.F.type_list_append mt_append (pv 12) (pa_cons (pe_tup (pa_cons (pe_callB (call_min2 rfl) rfl yMin bt_min (pa_cons (pe_ix ix_tup (pv 13) pe_int (fun _ _ => rfl)) (pa_cons (pe_ix ix_tup (pv 13) pe_int (fun _ _ => rfl)) pa_nil))) (pa_cons (pe_callB (call_max2 rfl) rfl yMax bt_max (pa_cons (pe_ix ix_tup (pv 13) pe_int (fun _ _ => rfl)) (pa_cons (pe_ix ix_tup (pv 13) pe_int (fun _ _ => rfl)) pa_nil))) pa_nil))) pa_nil)))) pss_nil)
      (pss_cons (ps_if (pt_cmpR op_eq (pv 14) pe_str (nomark _)) (pss_one (ps_expr (pe_bm PySem.F.plainAttrs_list PySem.F.slot_list_remove PySem.F.type_list_remove (mt_removeP hu) (pv 12) (pa_cons (pe_tup (pa_cons (pe_callB (call_min2 rfl) rfl yMin bt_min (pa_cons (pe_ix ix_tup (pv 13) pe_int (fun _ _ => rfl)) (pa_cons (pe_ix ix_tup (pv 13) pe_int (fun _ _ => rfl)) pa_nil))) (pa_cons (pe_callB (call_max2 rfl) rfl yMax bt_max (pa_cons (pe_ix ix_tup (pv 13) pe_int (fun _ _ => rfl)) (pa_cons (pe_ix ix_tup (pv 13) pe_int (fun _ _ => rfl)) pa_nil))) pa_nil))) pa_nil)))) pss_nil) hR4), ?_⟩
    intro p a b lb t B ps qs d D v0 v1 v2 v3 v4 v5 v6 v7 v8 v9 v11 H1 H2 ys s2 nl hc ok len nal nbl hl hP ht k
    have yl := hP.length
    have sl := stepQ_len B qs d
    have om : out B qs d = .pulled → bdg d.2.1 d.2.2 ∈ qs := fun e => by
      unfold out at e
      split at e
      · split at e
        · cases e
        · split at e
          · cases e
          · split at e
            · split at e <;> cases e
            · split at e
              · assumption
              · cases e
      · cases e
    have go : ∀ (v : Option V) (H' : Hp) (ys' : List V), SameX p H1 H' → ChartAt C H' p a b B ps → H' lb = some (.lst ys') → Prs H' ys' (stepQ B qs d) → t4 D [v0, v1, v2, v3, v4, v5, v6, v7, v8, v9, some (.ref p), v11, some (.ref lb), some (.ref t), v, none] H' := fun v H' ys' sx c' hl' hp' =>
      q4 p a b lb B ps (stepQ B qs d) D v0 v1 v2 v3 v4 v5 v6 v7 v8 v9 v11 _ v H' ys' c' ok (by omega) hl' hp' fun H'' s'' => k v H'' ys' (sx.trans (SameX.of s'')) (s'' _ _ hl') (s''.prs hp') ⟨ps, c'.same s'', ok⟩
    have same : ∀ {o : Wd}, out B qs d = o → (∀ qs, nextQ qs d o = qs) → Prs H2 ys (stepQ B qs d) := fun {o} e1 e2 => by
      unfold stepQ
      rw [e1, e2]
      exact hP
    cases eo : out B qs d with
    | noPlace => exact ⟨_, rfl, rfl, _, rfl, iteF ⟨_, rfl, rfl, _, rfl, iteF (go _ H2 ys s2 hc hl (same eo fun _ => rfl))⟩⟩
    | onePlace => exact ⟨_, rfl, rfl, _, rfl, iteF ⟨_, rfl, rfl, _, rfl, iteF (go _ H2 ys s2 hc hl (same eo fun _ => rfl))⟩⟩
    | stands => exact ⟨_, rfl, rfl, _, rfl, iteF ⟨_, rfl, rfl, _, rfl, iteF (go _ H2 ys s2 hc hl (same eo fun _ => rfl))⟩⟩
    | noBridge => exact ⟨_, rfl, rfl, _, rfl, iteF ⟨_, rfl, rfl, _, rfl, iteF (go _ H2 ys s2 hc hl (same eo fun _ => rfl))⟩⟩
    | way => exact ⟨_, rfl, rfl, _, rfl, iteF ⟨_, rfl, rfl, _, rfl, iteF (go _ H2 ys s2 hc hl (same eo fun _ => rfl))⟩⟩
    | built =>
      refine ⟨_, rfl, rfl, _, rfl, iteT ⟨_, rfl, .inl ⟨rfl, _, SqL.of hl⟩, _, rfl, t, _, _, _, rfl, rfl, SqT.of ht, rfl, _, rfl, t, _, _, _, rfl, rfl, SqT.of ht, rfl, _, _, rfl, _, rfl, t, _, _, _, rfl, rfl, SqT.of ht, rfl, _, rfl, t, _, _, _, rfl, rfl, SqT.of ht, rfl, _, _, rfl, (by show 2 ≤ sizeLine; decide), fun u hu' => ?_⟩⟩
      have s3 := same_new hu' (.tup [.int (bdg d.2.1 d.2.2).1, .int (bdg d.2.1 d.2.2).2])
      refine ⟨lb, ys, _, rfl, rfl, s3 _ _ hl, (by have := sizeLine_eq; omega), ⟨_, rfl, rfl, _, rfl, iteF ?_⟩⟩
      refine go _ _ _ (fun c o e n => ?_) ((hc.same s3).put (s3 _ _ hl) nal nbl) upd_same (prs_put (s3 _ _ hl) ?_)
      · rw [upd_ne (ne_of_none e nl)]
        exact s3 _ _ (s2 _ _ e n)
      · unfold stepQ
        rw [eo]
        exact (s3.prs hP).snoc ⟨u, rfl, upd_same⟩
    | pulled =>
      refine ⟨_, rfl, rfl, _, rfl, iteF ⟨_, rfl, rfl, _, rfl, iteT ⟨_, rfl, .inl ⟨rfl, _, SqL.of hl⟩, _, rfl, t, _, _, _, rfl, rfl, SqT.of ht, rfl, _, rfl, t, _, _, _, rfl, rfl, SqT.of ht, rfl, _, _, rfl, _, rfl, t, _, _, _, rfl, rfl, SqT.of ht, rfl, _, rfl, t, _, _, _, rfl, rfl, SqT.of ht, rfl, _, _, rfl, (by show 2 ≤ sizeLine; decide), fun u hu' => ?_⟩⟩⟩
      have s3 := same_new hu' (.tup [.int (bdg d.2.1 d.2.2).1, .int (bdg d.2.1 d.2.2).2])
      refine ⟨lb, u, bdg d.2.1 d.2.2, ys, qs, rfl, rfl, upd_same, s3 _ _ hl, s3.prs hP, om eo, ?_⟩
      refine go _ _ _ (fun c o e n => ?_) ((hc.same s3).put (s3 _ _ hl) nal nbl) upd_same (prs_put (s3 _ _ hl) ?_)
      · rw [upd_ne (ne_of_none e nl)]
        exact s3 _ _ (s2 _ _ e n)
      · unfold stepQ
        rw [eo]
        show Prs _ _ (qs.erase (bdg d.2.1 d.2.2))
        rw [← erase_at]
        exact (s3.prs hP).erase _
  obtain ⟨t2, hR2, q2⟩ := body2
  have core : ∃ t, PSs (cxOf CX0 P w K mg base nLaw "law" (defScope sLaw) f cdv A outer s H E).nox (forBody ((defBody sLaw).getD 15 (.Pass ⟨0, 0, 0, 0⟩))) t ∧ ∀ (p a b lb t' pl : Addr) (B : List Int) (ps qs : List (Int × Int)) (d : Deed) (D : Ends) (v0 v1 v2 v4 v5 v6 v7 v8 v9 v11 v14 : Option V) (H1 H2 : Hp) (ys : List V), SameX p H1 H2 → H1 lb = none → ChartAt C H2 p a b B ps → ChOk ps qs → Kept B qs → qs.length < 63 → a ≠ lb → b ≠ lb → H2 lb = some (.lst ys) → Prs H2 ys qs → H2 t' = some (.tup [.str d.1.word, .int d.2.1, .int d.2.2]) → H2 pl = some (.lst (B.map V.int)) →
      (∀ v b' H' ys', b' ≠ lb → SameX p H1 H' → H' lb = some (.lst ys') → Prs H' ys' (stepQ B qs d) → (∃ ps, ChartAt C H' p a b' B ps ∧ ChOk ps (stepQ B qs d)) → D.nx [v0, v1, v2, some (.ref pl), v4, v5, v6, v7, v8, v9, some (.ref p), v11, some (.ref lb), some (.ref t'), v, none] H') → t D [v0, v1, v2, some (.ref pl), v4, v5, v6, v7, v8, v9, some (.ref p), v11, some (.ref lb), some (.ref t'), v14, none] H2 := by
    refine ⟨_, pss_cons (ps_set (i := 14) scLaw.nd rfl (Or.inl rfl) (pe_call GR hr1 rfl mR kR bR .nil pass0 (pa_cons (pv 3) (pa_cons (pv 12) (pa_cons (pv 13) pa_nil)))))
      (pss_cons (ps_if (PW.pt (pw_and (pt_cmpR op_ne (pe_ix ix_tup (pv 13) pe_int (fun _ _ => rfl)) pe_str (nomark _)) (pw_and1 (pt_cmpR op_ne (pe_call GO hr4 rfl mO kO bO .nil pass0 (pa_cons (pv 10) (pa_cons (pv 13) pa_nil))) (pv 14) (nomark _))))) (pss_one (ps_ret pe_bl)) pss_nil) hR2), ?_⟩
    intro p a b lb t pl B ps qs d D v0 v1 v2 v4 v5 v6 v7 v8 v9 v11 v14 H1 H2 ys s2 nl hc ok kq len nal nbl hl hP ht hpl k
    refine ⟨_, rfl, _, rfl, _, rfl, pl, lb, t, B, ys, qs, d, rfl, SqL.of hpl, SqL.of hl, hP, kq.le, ht, fun H3 s3 => ?_⟩
    have c3 := hc.same s3
    have ht3 := s3 _ _ ht
    have hl3 := s3 _ _ hl
    have hP3 := s3.prs hP
    have s13 : SameX p H1 H3 := s2.trans (SameX.of s3)
    obtain ⟨⟨dx, h1⟩, h2, xs, h3, h4⟩ := id c3
    refine ⟨_, rfl, t, _, _, _, rfl, rfl, SqT.of ht3, rfl, rfl, _, rfl, ?_⟩
    by_cases hk : d.1 = .way
    · have e0 : (!decide (V.str d.1.word = V.str (Str.ofString "way"))) = false := by rw [hk]; rfl
      rw [e0]
      refine iteF (iteF ?_)
      have st : stepQ B qs d = qs := by
        have eo : out B qs d = .way ∨ out B qs d = .noPlace := by
          unfold out
          rw [if_pos hk]
          split
          · exact .inl rfl
          · exact .inr rfl
        unfold stepQ
        rcases eo with eo | eo <;> rw [eo] <;> rfl
      refine q2 p a b lb t B ps qs d D v0 v1 v2 _ v4 v5 v6 v7 v8 v9 v11 H1 H3 ys s13 nl c3 (by rw [st]; exact ok) len nal nbl hl3 hP3 ht3 (fun v H' ys' g1 g2 g3 g4 => k v b H' ys' nbl g1 g2 g3 g4)
    · have e0 : (!decide (V.str d.1.word = V.str (Str.ofString "way"))) = true := by
        revert hk
        generalize d.1 = kd
        intro hk
        cases kd with
        | way => exact absurd rfl hk
        | build => rfl
        | pull => rfl
      rw [e0]
      refine iteT ?_
      refine ⟨_, rfl, _, rfl, p, a, b, t, B, ps, qs, d, rfl, c3, ok, kq, len, ht3, hk, fun b' H4 bh => ?_⟩
      obtain ⟨nb, sx, ps', ch, co⟩ := bh
      have nbl' : b' ≠ lb := by
        rcases nb with z | z
        · rw [z]
          exact nbl
        · intro e
          rw [e, hl3] at z
          cases z
      refine ⟨_, rfl, rfl, _, rfl, ?_⟩
      refine iteNS rfl ?_
      exact q2 p a b' lb t B ps' qs d D v0 v1 v2 _ v4 v5 v6 v7 v8 v9 v11 H1 H4 ys (s13.trans sx) nl ch co len nal nbl' (sx.lst h1 hl3) (sx.prs h1 hP3) (sx.tup h1 ht3) (fun v H' ys' g1 g2 g3 g4 => k v b' H' ys' nbl' g1 g2 g3 g4)
  obtain ⟨tB, hBd, qB⟩ := core
  have rest14 : ∃ t, PSs (cxOf CX0 P w K mg base nLaw "law" (defScope sLaw) f cdv A outer s H E).nox ((defBody sLaw).drop 14) t ∧
      ∀ (pl ak hd g r p a b p2 a2 b2 : Addr) (v0 v1 v2 v4 v9 : Option V) (H1 : Hp) (xs rs : List V) (ds : List Deed) (B : List Int) (fs : List (Int × Int)), H1 pl = some (.lst (B.map V.int)) → H1 g = some (.lst (B.map V.int)) → H1 ak = some (.lst xs) → H1 hd = some (.lst xs) → Dds H1 xs ds → ds.length < 63 → B.length < 64 → H1 r = some (.lst rs) → Prs H1 rs fs → ChOk fs (afterQ B ds) →
        ChartAt C H1 p a b B [] → ChartAt C H1 p2 a2 b2 [0, 3] [(0, 3)] → p2 ≠ p →
        t { nx := fun _ H' => Q .non H', rt := Q } [v0, v1, v2, some (.ref pl), v4, some (.ref ak), some (.ref hd), some (.ref g), some (.ref r), v9, some (.ref p), some (.ref p2), none, none, none, none] H1 := by
    refine ⟨_, pss_cons (ps_set (i := 12) scLaw.nd rfl (Or.inl rfl) (pe_lst pa_nil))
      (pss_cons (ps_for PassesOwn.never rfl (pi_list (pv 5)) (pg_name (i := 13) scLaw.nd rfl (Or.inl rfl)) hBd)
      (pss_cons (ps_set (i := 15) scLaw.nd rfl (Or.inl rfl) (pe_callB call_sortedPairs rfl ySorted bt_sorted (pa_cons (pv 12) pa_nil)))
      (pss_cons (ps_if (PW.pt (pw_or (pt_not (pt_val (pe_call GS hr2 rfl mS kS bS .nil pass0 (pa_cons (pv 6) (pa_cons (pv 5) pa_nil))))) (pw_or1 (pt_not (pt_val (pe_call GN hr2 rfl mN kN bN .nil pass0 (pa_cons (pv 7) (pa_cons (pv 3) pa_nil)))))))) (pss_one (ps_ret pe_bl)) pss_nil)
      (pss_cons (ps_if (pt_not (pt_val (pe_call GP hr2 rfl mP kP bP .nil pass0 (pa_cons (pe_fld (pv 11) rfl) (pa_cons (pe_lst (pa_cons (pe_tup (pa_cons pe_int (pa_cons pe_int pa_nil))) pa_nil)) pa_nil))))) (pss_one (ps_ret pe_bl)) pss_nil)
      (pss_one (ps_ret (pe_and (pe_call GP hr2 rfl mP kP bP .nil pass0 (pa_cons (pv 8) (pa_cons (pv 15) pa_nil))) (pe_one (pe_call GP hr2 rfl mP kP bP .nil pass0 (pa_cons (pe_fld (pv 10) rfl) (pa_cons (pv 15) pa_nil))))))))))), ?_⟩
    intro pl ak hd g r p a b p2 a2 b2 v0 v1 v2 v4 v9 H1 xs rs ds B fs hpl hg hak hhd hds hn hB hr0 hfs hfo hc hc2 hpp
    have dl : xs.length = ds.length := Paired.length hds
    obtain ⟨⟨dx, h1⟩, h2, bx, h3, h4⟩ := id hc
    refine ⟨(by show 0 ≤ sizeLine; decide), fun lb nl => ?_⟩
    have s1 := same_new nl (.lst [])
    refine ⟨_, rfl, ak, rfl, ⟨_, SqL.of (s1 _ _ hak)⟩, for_list (K := K) (a := ak) (xs := xs) (fun i σ H2 => ∃ v13 v14 ys b', σ = [v0, v1, v2, some (.ref pl), v4, some (.ref ak), some (.ref hd), some (.ref g), some (.ref r), v9, some (.ref p), some (.ref p2), some (.ref lb), v13, v14, none] ∧ b' ≠ lb ∧ SameX p H1 H2 ∧ H2 lb = some (.lst ys) ∧ Prs H2 ys (afterQ B (ds.take i)) ∧ (∃ ps, ChartAt C H2 p a b' B ps ∧ ChOk ps (afterQ B (ds.take i))))
      ⟨none, none, [], b, rfl, ne_of_none h3 nl, SameX.of s1, upd_same, .nil, ⟨[], hc.same s1, List.Perm.refl _, List.Pairwise.nil⟩⟩ (fun i σ H2 _ ⟨_, _, _, _, _, _, s2, _⟩ => SqL.of (s2.lst h1 hak)) ?_ ?_⟩
    · rintro i v σ H2 hi ⟨v13, v14, ys, b', rfl, nbl, s2, k1, k2, ps, kc, ko⟩
      obtain ⟨d, hd', t, rfl, ht⟩ := hds.get hi
      have il : i < xs.length := (List.getElem?_eq_some_iff.mp hi).1
      obtain ⟨kq, ql⟩ := afterQ_ok (B := B) (ds := ds) i (by omega)
      refine qB p a b' lb t pl B ps _ d _ v0 v1 v2 v4 _ _ _ _ v9 _ v14 H1 H2 ys s2 nl kc ko kq (by omega) (ne_of_none h2 nl) nbl k1 k2 (s2.tup h1 ht) (s2.lst h1 hpl) (fun v b'' H' ys' g0 g1 g2 g3 g4 => ?_)
      rw [← afterQ_snoc hd'] at g3 g4
      exact ⟨_, _, ys', b'', rfl, g0, g1, g2, g3, g4⟩
    rintro σ H2 ⟨v13, v14, ys, b', rfl, nbl, s2, k1, k2, ps, kc, ko⟩
    rw [dl, List.take_length] at k2 ko
    have ql : (afterQ B ds).length ≤ ds.length := by
      have z := (afterQ_ok (B := B) (ds := ds) ds.length (Nat.le_refl _)).2
      rw [List.take_length] at z
      exact z
    refine ⟨_, rfl, lb, ys, _, rfl, SqL.of k1, k2, (by omega), fun du vs' ps' hdu pr pm pw => ?_⟩
    have s3 := same_new hdu (.lst vs')
    have hdu3 : (upd H2 du (.lst vs')) du = some (.lst vs') := upd_same
    have e1 : ps' = ps := sorted_same (pm.trans ko.pm.symm) pw ko.or
    have e2 : ps' = fs := sorted_same (pm.trans hfo.pm.symm) pw hfo.or
    have s13 : SameX p H1 (upd H2 du (.lst vs')) := s2.trans (SameX.of s3)
    have kc3 := kc.same s3
    have pr3 := s3.prs pr
    generalize upd H2 du (.lst vs') = H3 at s3 hdu3 s13 kc3 pr3
    have pl' := pm.length_eq
    have L : ∀ {x : Addr} {zs : List V}, H1 x = some (.lst zs) → H3 x = some (.lst zs) := fun {x zs} z => s13.lst h1 z
    refine ⟨_, rfl, _, rfl, hd, ak, xs, ds, rfl, L hhd, L hak, s13.dds h1 hds, (by omega), _, rfl, iteF ?_⟩
    refine ⟨_, rfl, _, rfl, g, pl, B, rfl, L hg, SqL.of (L hpl), (by omega), _, rfl, iteF ?_⟩
    have c23 := hc2.other s13 hpp h1
    obtain ⟨⟨dx2, i1⟩, i2, xs2, i3, i4⟩ := id c23
    refine ⟨_, rfl, p2, C, dx2, _, _, rfl, i1, cl, nB, flds_bridges _ _, (by show 2 ≤ sizeLine; decide), fun t2' ht2 => ?_⟩
    have s4 := same_new ht2 (.tup [.int 0, .int 3])
    refine ⟨(by show 1 ≤ sizeLine; decide), fun l2 hl2 => ?_⟩
    have s5 := same_new hl2 (.lst [.ref t2'])
    have s45 := s4.trans s5
    refine ⟨b2, l2, xs2, _, [(0, 3)], rfl, s45 _ _ i3, upd_same, s45.prs i4, .cons ⟨t2', rfl, s5 _ _ upd_same⟩ .nil, (by show 1 ≤ 1000; decide), _, rfl, iteF ?_⟩
    have s13' := s13.trans (SameX.of (p := p) s45)
    have hdu5 := s45 _ _ hdu3
    have pr5 := s45.prs pr3
    have kc5 := kc3.same s45
    generalize upd (upd H3 t2' (.tup [.int 0, .int 3])) l2 (.lst [.ref t2']) = H5 at s13' hdu5 pr5 kc5
    refine ⟨_, rfl, _, rfl, r, du, rs, vs', ps', rfl, s13'.lst h1 hr0, hdu5, (by rw [e2]; exact s13'.prs h1 hfs), pr5, (by omega), _, rfl, iteT ?_⟩
    obtain ⟨⟨dx5, j1⟩, j2, xs5, j3, j4⟩ := id kc5
    exact ⟨_, rfl, p, C, dx5, _, _, rfl, j1, cl, nB, flds_bridges _ _, _, rfl, b', du, xs5, vs', ps', rfl, j3, hdu5, (by rw [e1]; exact j4), pr5, (by omega), q _⟩
  obtain ⟨t14, hR14, q14⟩ := rest14
  have hasO : ∀ x, ((relabel scK (cxOf CX0 P w K mg base nLaw "law" (defScope sLaw) f cdv A outer s H E).nox.env).names.lookup x = some .cell ∨ (relabel scK (cxOf CX0 P w K mg base nLaw "law" (defScope sLaw) f cdv A outer s H E).nox.env).names.lookup x = some .free) → ∃ c, ([("_law_turn", s.heap.objs.size + 1 + 1), ("_law_size", s.heap.objs.size + 1)] : List (Str × Addr)).lookup x = some c := fun x h => by
    have m' : (x, NameKind.cell) ∈ ([(".0", .local), ("_law_k", .local), ("_law_called", .globalImplicit), ("_law_size", .cell), ("_law_turn", .cell)] : List (Str × NameKind)) ∨ (x, NameKind.free) ∈ ([(".0", .local), ("_law_k", .local), ("_law_called", .globalImplicit), ("_law_size", .cell), ("_law_turn", .cell)] : List (Str × NameKind)) :=
      h.imp (fun z => look_mem z) (fun z => look_mem z)
    simp at m'
    rcases m' with m' | m'
    · rw [m']
      exact ⟨_, rfl⟩
    · rw [m']
      exact ⟨_, rfl⟩
  have CK : CompOk (cxOf CX0 P w K mg base nLaw "law" (defScope sLaw) f cdv A outer s H E).nox scK [("_law_turn", s.heap.objs.size + 1 + 1), ("_law_size", s.heap.objs.size + 1)] := ⟨rfl, by decide +kernel, by decide +kernel, rfl, fun _ _ h => h, hasO⟩
  refine ⟨_, pss_cons (ps_set (i := 0) scLaw.nd rfl (Or.inl rfl) (pe_slice sl_list (pv 0) po_none (po_some pe_int)))
    (pss_cons (ps_set (i := 1) scLaw.nd rfl (Or.inr rfl) (pe_op op_add pe_int (pe_op op_mod (pe_call GA hr1 rfl mA kA bA .nil pass0 (pa_cons (pv 0) (pa_cons pe_int pa_nil))) (pe_call GU hr1 rfl mU kU bU .nil pass0 (pa_cons (pv 0) (pa_cons pe_int (pa_cons pe_int pa_nil)))))))
    (pss_cons (ps_set (i := 2) scLaw.nd rfl (Or.inr rfl) (pe_op op_fdiv (pe_call GA hr1 rfl mA kA bA .nil pass0 (pa_cons (pv 0) (pa_cons pe_int pa_nil))) pe_int))
    (pss_cons (ps_comp (N := ["_law_k", "_law_size", "_law_turn"]) (iy := 3) PassesOwn.never rfl CK scLaw.nd rfl (Or.inl rfl)
        (pi_range1 rfl yRange (pa_cons (pv 1) pa_nil)) (fun _ _ _ => pg_name (i := 0) nd3 rfl (Or.inl rfl)) (fun _ _ _ => pif_nil)
        (fun _ _ _ => pe_call GC hr1 rfl mC kC bC .nil pass0 (pa_cons (pe_op op_mod (pe_op op_add (pv 2) (pv 0)) (pv 1)) pa_nil)) rfl)
    (pss_cons (ps_set (i := 4) scLaw.nd rfl (Or.inl rfl) (pe_callB (call_min2 rfl) rfl yMin bt_min (pa_cons (pe_op op_sub (pv 1) pe_int) (pa_cons (pe_ix ix_list (pe_lst (pa_cons pe_int (pa_cons pe_int (pa_cons pe_int (pa_cons pe_int (pa_cons pe_int pa_nil)))))) (pe_op op_mod (pe_call GA hr1 rfl mA kA bA .nil pass0 (pa_cons (pv 0) (pa_cons pe_int pa_nil))) pe_int) (fun _ _ => rfl)) pa_nil))))
    (pss_cons (ps_set (i := 5) scLaw.nd rfl (Or.inl rfl) (pe_call GD hr2 rfl mD kD bD .nil pass0 (pa_cons (pe_slice sl_list (pv 0) (po_some pe_int) po_none) (pa_cons (pv 1) (pa_cons (pv 4) pa_nil)))))
    (pss_cons (ps_set (i := 6) scLaw.nd rfl (Or.inl rfl) (pe_callTy call_list_of rfl yList bt_list (pa_cons (pv 5) pa_nil)))
    (pss_cons (ps_set (i := 7) scLaw.nd rfl (Or.inl rfl) (pe_callTy call_list_of rfl yList bt_list (pa_cons (pv 3) pa_nil)))
    (pss_cons (ps_set (i := 8) scLaw.nd rfl (Or.inl rfl) (pe_call GW hr rfl mW kW bW .nil pass0 (pa_cons (pv 7) (pa_cons (pv 6) pa_nil))))
    (pss_cons (ps_set (i := 9) scLaw.nd rfl (Or.inl rfl) (pe_callTy call_list_of rfl yList bt_list (pa_cons (pv 3) pa_nil)))
    (pss_cons (ps_set (i := 10) scLaw.nd rfl (Or.inl rfl) (pe_make M GI hrm rfl mCh bI .nil pass0 (pa_cons (pv 9) pa_nil)))
    (pss_cons (ps_expr (pe_bm0 PySem.F.plainAttrs_list PySem.F.slot_list_clear PySem.F.type_list_clear mt_clear (pv 9)))
    (pss_cons (ps_set (i := 11) scLaw.nd rfl (Or.inl rfl) (pe_make M GI hrm rfl mCh bI .nil pass0 (pa_cons (pe_lst (pa_cons pe_int (pa_cons pe_int pa_nil))) pa_nil)))
    (pss_cons (ps_if (pt_cmpR op_ne (pe_call GO hr4 rfl mO kO bO .nil pass0 (pa_cons (pv 11) (pa_cons (pe_tup (pa_cons pe_str (pa_cons pe_int (pa_cons pe_int pa_nil)))) pa_nil))) pe_str (nomark _)) (pss_one (ps_ret pe_bl)) pss_nil) hR14))))))))))))), ?_⟩
  refine ⟨_, rfl, _, rfl, a0, _, rfl, hS, fun sc hsc => ?_⟩
  rw [cut_upto (by rw [List.length_map]; omega)]
  have s1 : Same H (upd H sc (.lst (ns.map V.int))) := same_new hsc _
  have hS1 : SqL K (upd H sc (.lst (ns.map V.int))) sc (ns.map V.int) := SqL.of upd_same
  generalize upd H sc (.lst (ns.map V.int)) = H1 at s1 hS1
  refine ⟨_, rfl, sc, ns, 0, rfl, hS1, Int.le_refl 0, _, rfl, sc, _, 40, 99, rfl, hS1, (by rw [List.length_map]; exact h63), _, _, rfl, rfl, (by show (0 : Int) < 40; decide), _, _, rfl, rfl, ?_⟩
  have hz : 2 ≤ 2 + ns.getD (0 : Int).toNat 0 % 40 ∧ 2 + ns.getD (0 : Int).toNat 0 % 40 < 42 := by omega
  refine ⟨_, rfl, sc, ns, 1, rfl, hS1, (by decide), _, _, rfl, rfl, ⟨by decide, by decide⟩, ?_⟩
  have hv : ∀ (σ : L2.St), σ[1]? = some (some (.int (2 + ns.getD (0 : Int).toNat 0 % 40))) → σ[2]? = some (some (.int (ns.getD (1 : Int).toNat 0 / 4))) → ∀ (j : Nat) (x : Str) (v : V), (["_law_k", "_law_size", "_law_turn"] : List Str)[j]? = some x → ([none, some (.int (2 + ns.getD (0 : Int).toNat 0 % 40)), some (.int (ns.getD (1 : Int).toNat 0 / 4))] : L2.St)[j]? = some (some v) →
      ∃ i : Nat, (cxOf CX0 P w K mg base nLaw "law" (defScope sLaw) f cdv A outer s H E).nox.N[i]? = some x ∧ σ[i]? = some (some v) ∧ (cxOf CX0 P w K mg base nLaw "law" (defScope sLaw) f cdv A outer s H E).nox.env.kindOf x = some .cell ∧ (relabel scK (cxOf CX0 P w K mg base nLaw "law" (defScope sLaw) f cdv A outer s H E).nox.env).names.lookup x = some .cell := by
    intro σ h1 h4 j x v e1 e2
    match j, e1, e2 with
    | 0, e1, e2 => cases e2
    | 1, e1, e2 =>
      cases e1
      cases e2
      exact ⟨1, rfl, h1, rfl, rfl⟩
    | 2, e1, e2 =>
      cases e1
      cases e2
      exact ⟨2, rfl, h4, rfl, rfl⟩
    | j + 3, e1, e2 => cases e1
  refine ⟨_, rfl, _, rfl, (by omega), (by omega), fun pl hpl' => ?_⟩
  refine comp_mk [none, some (.int (2 + ns.getD (0 : Int).toNat 0 % 40)), some (.int (ns.getD (1 : Int).toNat 0 / 4))] rfl (hv _ rfl rfl) (comp_up (lo := 0) (n := (2 + ns.getD (0 : Int).toNat 0 % 40).toNat) (fun i σ' H2 => ∃ v0, σ' = [v0, some (.int (2 + ns.getD (0 : Int).toNat 0 % 40)), some (.int (ns.getD (1 : Int).toNat 0 / 4))] ∧ Same H1 H2 ∧ H2 pl = some (.lst ((rotL (ns.getD (1 : Int).toNat 0 / 4) (2 + ns.getD (0 : Int).toNat 0 % 40) i).map V.int))) ⟨none, rfl, same_new hpl' _, upd_same⟩ ?_ ?_)
  · rintro i σ' H2 hi ⟨v0, rfl, s2, hi2⟩
    have ll := rotL_len (ns.getD (1 : Int).toNat 0 / 4) (2 + ns.getD (0 : Int).toNat 0 % 40) i
    dsimp only [gName, tYes]
    refine iteT ?_
    refine ⟨_, rfl, _, rfl, _, _, rfl, rfl, _, rfl, _, _, rfl, rfl, (by omega), _, rfl, Int.emod_nonneg _ (by omega), _, hi2, small1000 (by rw [List.length_map]; omega), _, rfl, same_put s2 hpl' _, ?_⟩
    rw [upd_same]
    simp only [rotL, List.map_append]
    rw [show ns.getD (1 : Int).toNat 0 / 4 + (0 + (i : Int)) = ns.getD (1 : Int).toNat 0 / 4 + (i : Int) by omega]
    rfl
  rintro σ' H2 ⟨v0, rfl, s2, hi2⟩
  have bl := rotL_len (ns.getD (1 : Int).toNat 0 / 4) (2 + ns.getD (0 : Int).toNat 0 % 40) (2 + ns.getD (0 : Int).toNat 0 % 40).toNat
  have hS2 := s2.seq hS1
  refine ⟨_, rfl, _, _, rfl, rfl, (by show 5 ≤ sizeLine; decide), fun l3 hl3 => ?_⟩
  have s3 : Same H2 (upd H2 l3 (.lst [.int 1, .int 2, .int 3, .int 4, .int 97])) := same_new hl3 _
  have hl3' : (upd H2 l3 (.lst [.int 1, .int 2, .int 3, .int 4, .int 97])) l3 = some (.lst [.int 1, .int 2, .int 3, .int 4, .int 97]) := upd_same
  have hS3 := s3.seq hS2
  have hp3 := s3 _ _ hi2
  generalize upd H2 l3 (.lst [.int 1, .int 2, .int 3, .int 4, .int 97]) = H3 at s3 hl3' hS3 hp3
  obtain ⟨h, gh, h1⟩ := hop5 (ns.getD (1 : Int).toNat 0)
  refine ⟨_, rfl, sc, ns, 1, rfl, hS3, (by decide), _, _, rfl, rfl, (by show (0 : Int) < 5; decide), l3, _, _, _, rfl, rfl, SqL.of hl3', gh, _, _, rfl, ?_⟩
  have hh : 1 ≤ (if h < 2 + ns.getD (0 : Int).toNat 0 % 40 - 1 then h else 2 + ns.getD (0 : Int).toNat 0 % 40 - 1) := by split <;> omega
  refine ⟨_, rfl, _, rfl, sc, _, rfl, hS3, fun c3 hc3 => ?_⟩
  have s4 : Same H3 (upd H3 c3 (.lst (cutV (ns.map V.int) (some 2) none))) := same_new hc3 _
  have e2 : cutV (ns.map V.int) (some 2) none = (ns.drop 2).map V.int := cutI_drop (k := 2) (by decide)
  refine ⟨_, rfl, _, rfl, c3, ns.drop 2, _, _, rfl, SqL.of (by rw [upd_same, e2]), (by rw [List.length_drop]; omega), hh, (by omega), fun ak xs ds H5 s5 nak hak hds hdl => ?_⟩
  rw [List.length_drop] at hdl
  have hp5 := s5 _ _ (s4 _ _ hp3)
  refine ⟨_, rfl, ak, _, rfl, .inl (SqL.of hak), fun hd hhd => ?_⟩
  have s6 := same_new hhd (.lst xs)
  refine ⟨_, rfl, pl, _, rfl, .inl (SqL.of (s6 _ _ hp5)), fun g hg => ?_⟩
  have s7 := same_new hg (.lst ((rotL (ns.getD (1 : Int).toNat 0 / 4) (2 + ns.getD (0 : Int).toNat 0 % 40) (2 + ns.getD (0 : Int).toNat 0 % 40).toNat).map V.int))
  have s57 := s6.trans s7
  refine ⟨_, rfl, _, rfl, g, hd, _, xs, ds, rfl, upd_same, (by omega), s7 _ _ upd_same, s57.dds hds, (by omega), fun r rs fs H8 s8 hr8 hfs hfo => ?_⟩
  have s58 := s57.trans s8
  have hp8 := s58 _ _ hp5
  have hg8 := s8 _ _ (show (upd (upd H5 hd (.lst xs)) g _) g = some (.lst ((rotL (ns.getD (1 : Int).toNat 0 / 4) (2 + ns.getD (0 : Int).toNat 0 % 40) (2 + ns.getD (0 : Int).toNat 0 % 40).toNat).map V.int)) from upd_same)
  have hk8 := s58 _ _ hak
  have hh8 := s8 _ _ (s7 _ _ upd_same)
  have hd8 := s58.dds hds
  have hBl : (rotL (ns.getD (1 : Int).toNat 0 / 4) (2 + ns.getD (0 : Int).toNat 0 % 40) (2 + ns.getD (0 : Int).toNat 0 % 40).toNat).length < 64 := by omega
  have hdl' : ds.length < 63 := by omega
  generalize rotL (ns.getD (1 : Int).toNat 0 / 4) (2 + ns.getD (0 : Int).toNat 0 % 40) (2 + ns.getD (0 : Int).toNat 0 % 40).toNat = B at hp8 hg8 hfo hBl
  -- spare = list(places); chart = Chart(spare); spare.clear()
  refine ⟨_, rfl, pl, _, rfl, .inl (SqL.of hp8), fun sp hsp => ?_⟩
  refine ⟨_, rfl, fun p dx np nd ndp => ⟨p, dx, sp, B, rfl, upd_same, ?_, fun a b H10 na nb sx ch => ⟨rfl, ?_⟩⟩⟩
  · have n1 : sp ≠ p := ne_of_none (show (upd H8 sp (.lst (B.map V.int))) sp = some _ from upd_same) np
    have n2 : sp ≠ dx := ne_of_none (show (upd H8 sp (.lst (B.map V.int))) sp = some _ from upd_same) nd
    rw [upd_ne n1, upd_ne n2, upd_same]
  have s9 := same_new hsp (.lst (B.map V.int))
  have sp9 : (upd H8 sp (.lst (B.map V.int))) sp = some (.lst (B.map V.int)) := upd_same
  generalize upd H8 sp (.lst (B.map V.int)) = H9 at s9 sp9 np nd na nb sx
  have np8 : H8 p = none := s9.free np
  have s90 : Same H9 (upd (upd H9 dx (.own p)) p (.ins C dx [])) := fun c o e => by
    rw [upd_ne (ne_of_none e np), upd_ne (ne_of_none e nd)]
    exact e
  have s10 : Same H9 H10 := fun c o e => sx c o (s90 c o e) (ne_of_none e np)
  have nas : a ≠ sp := fun z => by rw [z, s90 _ _ sp9] at na; cases na
  have nbs : b ≠ sp := fun z => by rw [z, s90 _ _ sp9] at nb; cases nb
  have sp10 := s10 _ _ sp9
  refine ⟨_, rfl, .inl ⟨rfl, _, SqL.of sp10⟩, sp, _, rfl, rfl, sp10, ?_⟩
  have s11 : Same H8 (upd H10 sp (.lst [])) := same_put (s9.trans s10) hsp _
  have c11 : ChartAt C (upd H10 sp (.lst [])) p a b B [] := ch.put sp10 nas nbs
  generalize upd H10 sp (.lst []) = H11 at s11 c11
  -- second = Chart([0, 3])
  refine ⟨(by show 2 ≤ sizeLine; decide), fun l2 hl2 => ?_⟩
  have s12 := same_new hl2 (.lst [.int 0, .int 3])
  have l12 : (upd H11 l2 (.lst [.int 0, .int 3])) l2 = some (.lst ([0, 3].map V.int)) := upd_same
  have c12 := c11.same s12
  have s812 := s11.trans s12
  generalize upd H11 l2 (.lst [.int 0, .int 3]) = H12 at s12 l12 c12 s812
  refine fun p2 dx2 np2 nd2 _ => ⟨p2, dx2, l2, [0, 3], rfl, upd_same, ?_, fun a2 b2 H13 na2 nb2 sx2 ch2 => ⟨rfl, ?_⟩⟩
  · rw [upd_ne (ne_of_none l12 np2), upd_ne (ne_of_none l12 nd2)]
    exact l12
  have s120 : Same H12 (upd (upd H12 dx2 (.own p2)) p2 (.ins C dx2 [])) := fun c o e => by
    rw [upd_ne (ne_of_none e np2), upd_ne (ne_of_none e nd2)]
    exact e
  have s13 : Same H12 H13 := fun c o e => sx2 c o (s120 c o e) (ne_of_none e np2)
  have c13 := c12.same s13
  have s813 := s812.trans s13
  have npp : p ≠ p2 := by
    obtain ⟨⟨dz, z1⟩, _⟩ := c12
    exact ne_of_none z1 np2
  -- by_hand(second, ("build", 0, 3))
  refine ⟨_, rfl, (by show 3 ≤ sizeLine; decide), fun t3 ht3 => ?_⟩
  have s14 := same_new ht3 (.tup [.str (Str.ofString "build"), .int 0, .int 3])
  have ch14 := ch2.same s14
  have eo : out [0, 3] [] (Kd.build, 0, 3) = .built := by decide
  have es : stepQ [0, 3] [] (Kd.build, 0, 3) = [(0, 3)] := by decide
  refine ⟨p2, a2, b2, t3, [0, 3], [], [], (Kd.build, 0, 3), rfl, ch14, ⟨List.Perm.refl _, List.Pairwise.nil⟩, Kept.nil _, (by show 0 < 63; decide), upd_same, (fun z => nomatch z), fun b2' H15 bh => ?_⟩
  obtain ⟨_, sx15, ps2, c15, o15⟩ := bh
  rw [es] at o15
  have e15 : ps2 = [(0, 3)] := List.perm_singleton.mp o15.pm
  subst e15
  rw [eo]
  refine ⟨rfl, _, rfl, ?_⟩
  refine iteNS rfl ?_
  obtain ⟨⟨dy2, y1⟩, _⟩ := id ch14
  have sx := (SameX.of (p := p2) (s813.trans s14)).trans sx15
  have np28 : H8 p2 = none := s812.free np2
  have T : ∀ {x : Addr} {o : HO}, H8 x = some o → H15 x = some o := fun {x o} e => sx x o e (ne_of_none e np28)
  have S : Same H8 H15 := fun x o e => T e
  exact q14 pl ak hd g r p a b p2 a2 b2' _ _ _ _ _ H15 xs rs ds B fs (T hp8) (T hg8) (T hk8) (T hh8) (S.dds hd8) hdl' hBl (T hr8) (S.prs hfs) hfo (((c13.same s14).other sx15 npp y1)) c15 (Ne.symm npp)
end
theorem all_mk {l : PySem.W.OpenLaw} {w : World} {K : PySem.W.Frag} {h : Heap} {mg : Str → Option Value} {fa f1 f2 f3 f4 f5 f6 f7 f8 f9 f10 f11 f12 f13 f14 f15 f16 f17 f18 f19 f20 f21 f22 f23 f24 CMapError CNoPlace COnePlace CStands CNoBridge CChart : Addr} (X : K.In h) (G : h.Ns mainGlobals mg) (hfa : mg "law" = some (.ref fa))
    {od1 an1 od2 an2 od3 an3 od4 an4 od5 an5 od6 an6 od7 an7 od8 an8 od9 an9 od10 an10 od11 an11 od12 an12 od13 an13 od14 an14 od15 an15 od16 an16 od17 an17 od18 an18 od19 an19 od20 an20 od21 an21 od22 an22 od23 an23 od24 an24 : Option Addr} {sl1 sl2 sl3 sl4 sl5 sl6 sl7 sl8 sl9 sl10 sl11 sl12 sl13 sl14 sl15 sl16 sl17 sl18 sl19 sl20 sl21 sl22 sl23 sl24 : Array (Option Value)} {oc1 kV1 dc1 pm1 cd1 ct1 oc2 kV2 dc2 pm2 cd2 ct2 oc3 kV3 dc3 pm3 cd3 ct3 oc4 kV4 dc4 pm4 cd4 ct4 oc5 kV5 dc5 pm5 cd5 ct5 oc6 kV6 dc6 pm6 cd6 ct6 oc7 kV7 dc7 pm7 cd7 ct7 oc8 kV8 dc8 pm8 cd8 ct8 oc9 kV9 dc9 pm9 cd9 ct9 oc10 kV10 dc10 pm10 cd10 ct10 oc11 kV11 dc11 pm11 cd11 ct11 oc12 kV12 dc12 pm12 cd12 ct12 oc13 kV13 dc13 pm13 cd13 ct13 oc14 kV14 dc14 pm14 cd14 ct14 oc15 kV15 dc15 pm15 cd15 ct15 oc16 kV16 dc16 pm16 cd16 ct16 oc17 kV17 dc17 pm17 cd17 ct17 oc18 kV18 dc18 pm18 cd18 ct18 oc19 kV19 dc19 pm19 cd19 ct19 oc20 kV20 dc20 pm20 cd20 ct20 oc21 kV21 dc21 pm21 cd21 ct21 oc22 kV22 dc22 pm22 cd22 ct22 oc23 kV23 dc23 pm23 cd23 ct23 oc24 kV24 dc24 pm24 cd24 ct24 : Value}
    (a_MapError : PySem.W.nsIn K mainGlobals "MapError" = some (some (.ref CMapError)))
    (a_NoPlace : PySem.W.nsIn K mainGlobals "NoPlace" = some (some (.ref CNoPlace)))
    (a_OnePlace : PySem.W.nsIn K mainGlobals "OnePlace" = some (some (.ref COnePlace)))
    (a_Stands : PySem.W.nsIn K mainGlobals "Stands" = some (some (.ref CStands)))
    (a_NoBridge : PySem.W.nsIn K mainGlobals "NoBridge" = some (some (.ref CNoBridge)))
    (a_Chart : PySem.W.nsIn K mainGlobals "Chart" = some (some (.ref CChart)))
    (x_NoPlace : PySem.W.excIn K CNoPlace HW.valueErrors "ValueError.__new__" = true)
    (x_OnePlace : PySem.W.excIn K COnePlace HW.valueErrors "ValueError.__new__" = true)
    (x_Stands : PySem.W.excIn K CStands HW.valueErrors "ValueError.__new__" = true)
    (x_NoBridge : PySem.W.excIn K CNoBridge HW.valueErrors "ValueError.__new__" = true)
    (e_NoPlace_NoPlace : PySem.W.exmOne K (.ref CNoPlace) (.ref CNoPlace) = some true)
    (e_NoPlace_OnePlace : PySem.W.exmOne K (.ref CNoPlace) (.ref COnePlace) = some false)
    (e_NoPlace_Stands : PySem.W.exmOne K (.ref CNoPlace) (.ref CStands) = some false)
    (e_NoPlace_NoBridge : PySem.W.exmOne K (.ref CNoPlace) (.ref CNoBridge) = some false)
    (e_OnePlace_NoPlace : PySem.W.exmOne K (.ref COnePlace) (.ref CNoPlace) = some false)
    (e_OnePlace_OnePlace : PySem.W.exmOne K (.ref COnePlace) (.ref COnePlace) = some true)
    (e_OnePlace_Stands : PySem.W.exmOne K (.ref COnePlace) (.ref CStands) = some false)
    (e_OnePlace_NoBridge : PySem.W.exmOne K (.ref COnePlace) (.ref CNoBridge) = some false)
    (e_Stands_NoPlace : PySem.W.exmOne K (.ref CStands) (.ref CNoPlace) = some false)
    (e_Stands_OnePlace : PySem.W.exmOne K (.ref CStands) (.ref COnePlace) = some false)
    (e_Stands_Stands : PySem.W.exmOne K (.ref CStands) (.ref CStands) = some true)
    (e_Stands_NoBridge : PySem.W.exmOne K (.ref CStands) (.ref CNoBridge) = some false)
    (e_NoBridge_NoPlace : PySem.W.exmOne K (.ref CNoBridge) (.ref CNoPlace) = some false)
    (e_NoBridge_OnePlace : PySem.W.exmOne K (.ref CNoBridge) (.ref COnePlace) = some false)
    (e_NoBridge_Stands : PySem.W.exmOne K (.ref CNoBridge) (.ref CStands) = some false)
    (e_NoBridge_NoBridge : PySem.W.exmOne K (.ref CNoBridge) (.ref CNoBridge) = some true)
    (e_NoPlace_MapError : PySem.W.exmOne K (.ref CNoPlace) (.ref CMapError) = some true)
    (e_NoPlace_ValueError : PySem.W.exmOne K (.ref CNoPlace) (.type "ValueError") = some true)
    (e_OnePlace_MapError : PySem.W.exmOne K (.ref COnePlace) (.ref CMapError) = some true)
    (e_OnePlace_ValueError : PySem.W.exmOne K (.ref COnePlace) (.type "ValueError") = some true)
    (e_Stands_MapError : PySem.W.exmOne K (.ref CStands) (.ref CMapError) = some true)
    (e_Stands_ValueError : PySem.W.exmOne K (.ref CStands) (.type "ValueError") = some true)
    (e_NoBridge_MapError : PySem.W.exmOne K (.ref CNoBridge) (.ref CMapError) = some true)
    (e_NoBridge_ValueError : PySem.W.exmOne K (.ref CNoBridge) (.type "ValueError") = some true)
    (eg_NoPlace : PySem.W.findIn K (.ref CNoPlace) "__getattribute__" = some (some (.builtin "BaseException.__getattribute__"))) (eh_NoPlace : PySem.W.findIn K (.ref CNoPlace) "__getattr__" = some none) (eb_NoPlace : PySem.W.mroIn K CNoPlace (.type "BaseException") = some true) (ei_NoPlace : PySem.W.hasDictIn K CNoPlace = true) (ea_NoPlace : PySem.W.findIn K (.ref CNoPlace) "__class__" = some (some (.builtin "object.__class__"))) (em_NoPlace : PySem.W.mroIn K CNoPlace (.type "object") = some true)
    (eg_OnePlace : PySem.W.findIn K (.ref COnePlace) "__getattribute__" = some (some (.builtin "BaseException.__getattribute__"))) (eh_OnePlace : PySem.W.findIn K (.ref COnePlace) "__getattr__" = some none) (eb_OnePlace : PySem.W.mroIn K COnePlace (.type "BaseException") = some true) (ei_OnePlace : PySem.W.hasDictIn K COnePlace = true) (ea_OnePlace : PySem.W.findIn K (.ref COnePlace) "__class__" = some (some (.builtin "object.__class__"))) (em_OnePlace : PySem.W.mroIn K COnePlace (.type "object") = some true)
    (eg_Stands : PySem.W.findIn K (.ref CStands) "__getattribute__" = some (some (.builtin "BaseException.__getattribute__"))) (eh_Stands : PySem.W.findIn K (.ref CStands) "__getattr__" = some none) (eb_Stands : PySem.W.mroIn K CStands (.type "BaseException") = some true) (ei_Stands : PySem.W.hasDictIn K CStands = true) (ea_Stands : PySem.W.findIn K (.ref CStands) "__class__" = some (some (.builtin "object.__class__"))) (em_Stands : PySem.W.mroIn K CStands (.type "object") = some true)
    (eg_NoBridge : PySem.W.findIn K (.ref CNoBridge) "__getattribute__" = some (some (.builtin "BaseException.__getattribute__"))) (eh_NoBridge : PySem.W.findIn K (.ref CNoBridge) "__getattr__" = some none) (eb_NoBridge : PySem.W.mroIn K CNoBridge (.type "BaseException") = some true) (ei_NoBridge : PySem.W.hasDictIn K CNoBridge = true) (ea_NoBridge : PySem.W.findIn K (.ref CNoBridge) "__class__" = some (some (.builtin "object.__class__"))) (em_NoBridge : PySem.W.mroIn K CNoBridge (.type "object") = some true)
    (en_ : PySem.W.specialIn K (.builtin "object.__class__") "__get__" = some (some (.builtin "getset_descriptor.__get__"))) (et_ : PySem.W.takesIn K (.builtin "object.__class__") = some true)
    (pg_Chart : PySem.W.plainGet K CChart Str.empty = true) (hd_Chart : PySem.W.hasDictIn K CChart = true) (po_Chart : PySem.W.plainOver K CChart = true) (sa_Chart : PySem.W.findIn K (.ref CChart) "__setattr__" = some (some (.builtin "object.__setattr__"))) (mk_Chart : PySem.W.makesIn K CChart = true) (kc_Chart : PySem.W.keepIn K (.ref CChart) = true)
    (n_Chart_places : PySem.W.findIn K (.ref CChart) "places" = some none)
    (n_Chart_bridges : PySem.W.findIn K (.ref CChart) "bridges" = some none)
    (a1 : PySem.W.nsIn K mainGlobals "check_places" = some (some (.ref f1))) (l1 : K.lookup f1 = some ⟨oc1, od1, .func (PySem.W.fnOf "check_places" "check_places" (defArgs sCheckPlaces) (defBody sCheckPlaces) (defScope sCheckPlaces) .none kV1 dc1 pm1 an1 cd1 ct1), sl1⟩) (c1 : PySem.W.codeIn K cd1 "check_places" = true) (k1 : PySem.W.keepIn K (.ref f1) = true)
    (a2 : PySem.W.nsIn K mainGlobals "neighbours" = some (some (.ref f2))) (l2 : K.lookup f2 = some ⟨oc2, od2, .func (PySem.W.fnOf "neighbours" "neighbours" (defArgs sNeighbours) (defBody sNeighbours) (defScope sNeighbours) .none kV2 dc2 pm2 an2 cd2 ct2), sl2⟩) (c2 : PySem.W.codeIn K cd2 "neighbours" = true) (k2 : PySem.W.keepIn K (.ref f2) = true)
    (a3 : PySem.W.nsIn K mainGlobals "lesser_first" = some (some (.ref f3))) (l3 : K.lookup f3 = some ⟨oc3, od3, .func (PySem.W.fnOf "lesser_first" "lesser_first" (defArgs sLesserFirst) (defBody sLesserFirst) (defScope sLesserFirst) .none kV3 dc3 pm3 an3 cd3 ct3), sl3⟩) (c3 : PySem.W.codeIn K cd3 "lesser_first" = true) (k3 : PySem.W.keepIn K (.ref f3) = true)
    (a4 : PySem.W.findIn K (.ref CChart) "__init__" = some (some (.ref f4))) (i4 : PySem.W.isFn K (.ref f4) = true) (l4 : K.lookup f4 = some ⟨oc4, od4, .func (PySem.W.fnOf "__init__" "Chart.__init__" (defArgs sChartInit) (defBody sChartInit) (defScope sChartInit) .none kV4 dc4 pm4 an4 cd4 ct4), sl4⟩) (c4 : PySem.W.codeIn K cd4 "Chart.__init__" = true) (k4 : PySem.W.keepIn K (.ref f4) = true)
    (a5 : PySem.W.findIn K (.ref CChart) "build" = some (some (.ref f5))) (i5 : PySem.W.isFn K (.ref f5) = true) (l5 : K.lookup f5 = some ⟨oc5, od5, .func (PySem.W.fnOf "build" "Chart.build" (defArgs sChartBuild) (defBody sChartBuild) (defScope sChartBuild) .none kV5 dc5 pm5 an5 cd5 ct5), sl5⟩) (c5 : PySem.W.codeIn K cd5 "Chart.build" = true) (k5 : PySem.W.keepIn K (.ref f5) = true)
    (a6 : PySem.W.findIn K (.ref CChart) "pull" = some (some (.ref f6))) (i6 : PySem.W.isFn K (.ref f6) = true) (l6 : K.lookup f6 = some ⟨oc6, od6, .func (PySem.W.fnOf "pull" "Chart.pull" (defArgs sChartPull) (defBody sChartPull) (defScope sChartPull) .none kV6 dc6 pm6 an6 cd6 ct6), sl6⟩) (c6 : PySem.W.codeIn K cd6 "Chart.pull" = true) (k6 : PySem.W.keepIn K (.ref f6) = true)
    (a7 : PySem.W.findIn K (.ref CChart) "bridge_between" = some (some (.ref f7))) (i7 : PySem.W.isFn K (.ref f7) = true) (l7 : K.lookup f7 = some ⟨oc7, od7, .func (PySem.W.fnOf "bridge_between" "Chart.bridge_between" (defArgs sChartBridgeBetween) (defBody sChartBridgeBetween) (defScope sChartBridgeBetween) .none kV7 dc7 pm7 an7 cd7 ct7), sl7⟩) (c7 : PySem.W.codeIn K cd7 "Chart.bridge_between" = true) (k7 : PySem.W.keepIn K (.ref f7) = true)
    (a8 : PySem.W.nsIn K mainGlobals "way" = some (some (.ref f8))) (l8 : K.lookup f8 = some ⟨oc8, od8, .func (PySem.W.fnOf "way" "way" (defArgs sWay) (defBody sWay) (defScope sWay) .none kV8 dc8 pm8 an8 cd8 ct8), sl8⟩) (c8 : PySem.W.codeIn K cd8 "way" = true) (k8 : PySem.W.keepIn K (.ref f8) = true)
    (a9 : PySem.W.nsIn K mainGlobals "roads_from" = some (some (.ref f9))) (l9 : K.lookup f9 = some ⟨oc9, od9, .func (PySem.W.fnOf "roads_from" "roads_from" (defArgs sRoadsFrom) (defBody sRoadsFrom) (defScope sRoadsFrom) .none kV9 dc9 pm9 an9 cd9 ct9), sl9⟩) (c9 : PySem.W.codeIn K cd9 "roads_from" = true) (k9 : PySem.W.keepIn K (.ref f9) = true)
    (a10 : PySem.W.nsIn K mainGlobals "standing" = some (some (.ref f10))) (l10 : K.lookup f10 = some ⟨oc10, od10, .func (PySem.W.fnOf "standing" "standing" (defArgs sStanding) (defBody sStanding) (defScope sStanding) .none kV10 dc10 pm10 an10 cd10 ct10), sl10⟩) (c10 : PySem.W.codeIn K cd10 "standing" = true) (k10 : PySem.W.keepIn K (.ref f10) = true)
    (a11 : PySem.W.nsIn K mainGlobals "answers_on" = some (some (.ref f11))) (l11 : K.lookup f11 = some ⟨oc11, od11, .func (PySem.W.fnOf "answers_on" "answers_on" (defArgs sAnswersOn) (defBody sAnswersOn) (defScope sAnswersOn) .none kV11 dc11 pm11 an11 cd11 ct11), sl11⟩) (c11 : PySem.W.codeIn K cd11 "answers_on" = true) (k11 : PySem.W.keepIn K (.ref f11) = true)
    (a12 : PySem.W.nsIn K mainGlobals "answer_on" = some (some (.ref f12))) (l12 : K.lookup f12 = some ⟨oc12, od12, .func (PySem.W.fnOf "answer_on" "answer_on" (defArgs sAnswerOn) (defBody sAnswerOn) (defScope sAnswerOn) .none kV12 dc12 pm12 an12 cd12 ct12), sl12⟩) (c12 : PySem.W.codeIn K cd12 "answer_on" = true) (k12 : PySem.W.keepIn K (.ref f12) = true)
    (a13 : PySem.W.nsIn K mainGlobals "do_deed" = some (some (.ref f13))) (l13 : K.lookup f13 = some ⟨oc13, od13, .func (PySem.W.fnOf "do_deed" "do_deed" (defArgs sDoDeed) (defBody sDoDeed) (defScope sDoDeed) .none kV13 dc13 pm13 an13 cd13 ct13), sl13⟩) (c13 : PySem.W.codeIn K cd13 "do_deed" = true) (k13 : PySem.W.keepIn K (.ref f13) = true)
    (a14 : PySem.W.nsIn K mainGlobals "_law_upto" = some (some (.ref f14))) (l14 : K.lookup f14 = some ⟨oc14, od14, .func (PySem.W.fnOf "_law_upto" "_law_upto" (defArgs sUpto) (defBody sUpto) (defScope sUpto) .none kV14 dc14 pm14 an14 cd14 ct14), sl14⟩) (c14 : PySem.W.codeIn K cd14 "_law_upto" = true) (k14 : PySem.W.keepIn K (.ref f14) = true)
    (a15 : PySem.W.nsIn K mainGlobals "_law_whole" = some (some (.ref f15))) (l15 : K.lookup f15 = some ⟨oc15, od15, .func (PySem.W.fnOf "_law_whole" "_law_whole" (defArgs sWhole) (defBody sWhole) (defScope sWhole) .none kV15 dc15 pm15 an15 cd15 ct15), sl15⟩) (c15 : PySem.W.codeIn K cd15 "_law_whole" = true) (k15 : PySem.W.keepIn K (.ref f15) = true)
    (a16 : PySem.W.nsIn K mainGlobals "_law_at" = some (some (.ref f16))) (l16 : K.lookup f16 = some ⟨oc16, od16, .func (PySem.W.fnOf "_law_at" "_law_at" (defArgs sAt) (defBody sAt) (defScope sAt) .none kV16 dc16 pm16 an16 cd16 ct16), sl16⟩) (c16 : PySem.W.codeIn K cd16 "_law_at" = true) (k16 : PySem.W.keepIn K (.ref f16) = true)
    (a17 : PySem.W.nsIn K mainGlobals "_law_called" = some (some (.ref f17))) (l17 : K.lookup f17 = some ⟨oc17, od17, .func (PySem.W.fnOf "_law_called" "_law_called" (defArgs sCalled) (defBody sCalled) (defScope sCalled) .none kV17 dc17 pm17 an17 cd17 ct17), sl17⟩) (c17 : PySem.W.codeIn K cd17 "_law_called" = true) (k17 : PySem.W.keepIn K (.ref f17) = true)
    (a18 : PySem.W.nsIn K mainGlobals "_law_pairs" = some (some (.ref f18))) (l18 : K.lookup f18 = some ⟨oc18, od18, .func (PySem.W.fnOf "_law_pairs" "_law_pairs" (defArgs sPairs) (defBody sPairs) (defScope sPairs) .none kV18 dc18 pm18 an18 cd18 ct18), sl18⟩) (c18 : PySem.W.codeIn K cd18 "_law_pairs" = true) (k18 : PySem.W.keepIn K (.ref f18) = true)
    (a19 : PySem.W.nsIn K mainGlobals "_law_numbers" = some (some (.ref f19))) (l19 : K.lookup f19 = some ⟨oc19, od19, .func (PySem.W.fnOf "_law_numbers" "_law_numbers" (defArgs sNumbers) (defBody sNumbers) (defScope sNumbers) .none kV19 dc19 pm19 an19 cd19 ct19), sl19⟩) (c19 : PySem.W.codeIn K cd19 "_law_numbers" = true) (k19 : PySem.W.keepIn K (.ref f19) = true)
    (a20 : PySem.W.nsIn K mainGlobals "_law_deeds" = some (some (.ref f20))) (l20 : K.lookup f20 = some ⟨oc20, od20, .func (PySem.W.fnOf "_law_deeds" "_law_deeds" (defArgs sDeeds) (defBody sDeeds) (defScope sDeeds) .none kV20 dc20 pm20 an20 cd20 ct20), sl20⟩) (c20 : PySem.W.codeIn K cd20 "_law_deeds" = true) (k20 : PySem.W.keepIn K (.ref f20) = true)
    (a21 : PySem.W.nsIn K mainGlobals "_law_stays" = some (some (.ref f21))) (l21 : K.lookup f21 = some ⟨oc21, od21, .func (PySem.W.fnOf "_law_stays" "_law_stays" (defArgs sStays) (defBody sStays) (defScope sStays) .none kV21 dc21 pm21 an21 cd21 ct21), sl21⟩) (c21 : PySem.W.codeIn K cd21 "_law_stays" = true) (k21 : PySem.W.keepIn K (.ref f21) = true)
    (a22 : PySem.W.nsIn K mainGlobals "_law_word" = some (some (.ref f22))) (l22 : K.lookup f22 = some ⟨oc22, od22, .func (PySem.W.fnOf "_law_word" "_law_word" (defArgs sWord) (defBody sWord) (defScope sWord) .none kV22 dc22 pm22 an22 cd22 ct22), sl22⟩) (c22 : PySem.W.codeIn K cd22 "_law_word" = true) (k22 : PySem.W.keepIn K (.ref f22) = true)
    (a23 : PySem.W.nsIn K mainGlobals "_law_by_hand" = some (some (.ref f23))) (l23 : K.lookup f23 = some ⟨oc23, od23, .func (PySem.W.fnOf "_law_by_hand" "_law_by_hand" (defArgs sByHand) (defBody sByHand) (defScope sByHand) .none kV23 dc23 pm23 an23 cd23 ct23), sl23⟩) (c23 : PySem.W.codeIn K cd23 "_law_by_hand" = true) (k23 : PySem.W.keepIn K (.ref f23) = true)
    (a24 : PySem.W.nsIn K mainGlobals "law" = some (some (.ref f24))) (l24 : K.lookup f24 = some ⟨oc24, od24, .func (PySem.W.fnOf "law" "law" (defArgs sLaw) (defBody sLaw) (defScope sLaw) .none kV24 dc24 pm24 an24 cd24 ct24), sl24⟩) (c24 : PySem.W.codeIn K cd24 "law" = true) (k24 : PySem.W.keepIn K (.ref f24) = true)
    (z_min : PySem.W.nsIn K mainGlobals "min" = some none)
    (z_max : PySem.W.nsIn K mainGlobals "max" = some none)
    (z_list : PySem.W.nsIn K mainGlobals "list" = some none)
    (z_sorted : PySem.W.nsIn K mainGlobals "sorted" = some none)
    (z_len : PySem.W.nsIn K mainGlobals "len" = some none)
    (z_isinstance : PySem.W.nsIn K mainGlobals "isinstance" = some none)
    (z_int : PySem.W.nsIn K mainGlobals "int" = some none)
    (z_bool : PySem.W.nsIn K mainGlobals "bool" = some none)
    (z_range : PySem.W.nsIn K mainGlobals "range" = some none)
    (z_tuple : PySem.W.nsIn K mainGlobals "tuple" = some none)
    (z_str : PySem.W.nsIn K mainGlobals "str" = some none)
    (z_ValueError : PySem.W.nsIn K mainGlobals "ValueError" = some none) :
    ∃ fd : FuncData, (∀ (s : Shared) (v : Value), BindsTo s fd ⟨[v], []⟩ [("_law_script", v)]) ∧ ∀ base : Heap, K.In base → base.Ns mainGlobals mg → FnOk l.prog w K mg base CX0 8 fa fd ["_law_script"] (spLaw K) := by
  have e := hfa.symm.trans (PySem.W.mg_of X G a24)
  cases e
  have m_MapError := PySem.W.mg_of X G a_MapError
  have m_NoPlace := PySem.W.mg_of X G a_NoPlace
  have m_OnePlace := PySem.W.mg_of X G a_OnePlace
  have m_Stands := PySem.W.mg_of X G a_Stands
  have m_NoBridge := PySem.W.mg_of X G a_NoBridge
  have m_Chart := PySem.W.mg_of X G a_Chart
  have FCheckPlaces := fun_mk (st := sCheckPlaces) l1 c1 k1
  have bCheckPlaces := FCheckPlaces.binds (ps := pCheckPlaces) fun _ _ _ _ _ _ us hl => match us, hl with | [_, _, _], _ => rfl
  have mCheckPlaces := PySem.W.mg_of X G a1
  have FNeighbours := fun_mk (st := sNeighbours) l2 c2 k2
  have bNeighbours := FNeighbours.binds (ps := pNeighbours) fun _ _ _ _ _ _ us hl => match us, hl with | [_], _ => rfl
  have mNeighbours := PySem.W.mg_of X G a2
  have FLesserFirst := fun_mk (st := sLesserFirst) l3 c3 k3
  have bLesserFirst := FLesserFirst.binds (ps := pLesserFirst) fun _ _ _ _ _ _ us hl => match us, hl with | [_, _], _ => rfl
  have mLesserFirst := PySem.W.mg_of X G a3
  have FChartInit := fun_mk (st := sChartInit) l4 c4 k4
  have bChartInit := FChartInit.binds (ps := pChartInit) fun _ _ _ _ _ _ us hl => match us, hl with | [_, _], _ => rfl
  have MChart : Mk K CChart f4 := ⟨mk_Chart, a4, i4, kc_Chart⟩
  have clChart : Cls K CChart := ⟨pg_Chart, hd_Chart, po_Chart, sa_Chart⟩
  have FChartBuild := fun_mk (st := sChartBuild) l5 c5 k5
  have bChartBuild := FChartBuild.binds (ps := pChartBuild) fun _ _ _ _ _ _ us hl => match us, hl with | [_, _, _], _ => rfl
  have mChartBuild : Meth K CChart "build" f5 := ⟨a5, i5, k5⟩
  have FChartPull := fun_mk (st := sChartPull) l6 c6 k6
  have bChartPull := FChartPull.binds (ps := pChartPull) fun _ _ _ _ _ _ us hl => match us, hl with | [_, _, _], _ => rfl
  have mChartPull : Meth K CChart "pull" f6 := ⟨a6, i6, k6⟩
  have FChartBridgeBetween := fun_mk (st := sChartBridgeBetween) l7 c7 k7
  have bChartBridgeBetween := FChartBridgeBetween.binds (ps := pChartBridgeBetween) fun _ _ _ _ _ _ us hl => match us, hl with | [_, _, _], _ => rfl
  have mChartBridgeBetween : Meth K CChart "bridge_between" f7 := ⟨a7, i7, k7⟩
  have FWay := fun_mk (st := sWay) l8 c8 k8
  have bWay := FWay.binds (ps := pWay) fun _ _ _ _ _ _ us hl => match us, hl with | [_, _, _, _], _ => rfl
  have mWay := PySem.W.mg_of X G a8
  have FRoadsFrom := fun_mk (st := sRoadsFrom) l9 c9 k9
  have bRoadsFrom := FRoadsFrom.binds (ps := pRoadsFrom) fun _ _ _ _ _ _ us hl => match us, hl with | [_, _], _ => rfl
  have mRoadsFrom := PySem.W.mg_of X G a9
  have FStanding := fun_mk (st := sStanding) l10 c10 k10
  have bStanding := FStanding.binds (ps := pStanding) fun _ _ _ _ _ _ us hl => match us, hl with | [_, _], _ => rfl
  have mStanding := PySem.W.mg_of X G a10
  have FAnswersOn := fun_mk (st := sAnswersOn) l11 c11 k11
  have bAnswersOn := FAnswersOn.binds (ps := pAnswersOn) fun _ _ _ _ _ _ us hl => match us, hl with | [_, _], _ => rfl
  have mAnswersOn := PySem.W.mg_of X G a11
  have FAnswerOn := fun_mk (st := sAnswerOn) l12 c12 k12
  have bAnswerOn := FAnswerOn.binds (ps := pAnswerOn) fun _ _ _ _ _ _ us hl => match us, hl with | [_, _], _ => rfl
  have mAnswerOn := PySem.W.mg_of X G a12
  have FDoDeed := fun_mk (st := sDoDeed) l13 c13 k13
  have bDoDeed := FDoDeed.binds (ps := pDoDeed) fun _ _ _ _ _ _ us hl => match us, hl with | [_, _], _ => rfl
  have mDoDeed := PySem.W.mg_of X G a13
  have FUpto := fun_mk (st := sUpto) l14 c14 k14
  have bUpto := FUpto.binds (ps := pUpto) fun _ _ _ _ _ _ us hl => match us, hl with | [_, _, _], _ => rfl
  have mUpto := PySem.W.mg_of X G a14
  have FWhole := fun_mk (st := sWhole) l15 c15 k15
  have bWhole := FWhole.binds (ps := pWhole) fun _ _ _ _ _ _ us hl => match us, hl with | [_], _ => rfl
  have mWhole := PySem.W.mg_of X G a15
  have FAt := fun_mk (st := sAt) l16 c16 k16
  have bAt := FAt.binds (ps := pAt) fun _ _ _ _ _ _ us hl => match us, hl with | [_, _], _ => rfl
  have mAt := PySem.W.mg_of X G a16
  have FCalled := fun_mk (st := sCalled) l17 c17 k17
  have bCalled := FCalled.binds (ps := pCalled) fun _ _ _ _ _ _ us hl => match us, hl with | [_], _ => rfl
  have mCalled := PySem.W.mg_of X G a17
  have FPairs := fun_mk (st := sPairs) l18 c18 k18
  have bPairs := FPairs.binds (ps := pPairs) fun _ _ _ _ _ _ us hl => match us, hl with | [_, _], _ => rfl
  have mPairs := PySem.W.mg_of X G a18
  have FNumbers := fun_mk (st := sNumbers) l19 c19 k19
  have bNumbers := FNumbers.binds (ps := pNumbers) fun _ _ _ _ _ _ us hl => match us, hl with | [_, _], _ => rfl
  have mNumbers := PySem.W.mg_of X G a19
  have FDeeds := fun_mk (st := sDeeds) l20 c20 k20
  have bDeeds := FDeeds.binds (ps := pDeeds) fun _ _ _ _ _ _ us hl => match us, hl with | [_, _, _], _ => rfl
  have mDeeds := PySem.W.mg_of X G a20
  have FStays := fun_mk (st := sStays) l21 c21 k21
  have bStays := FStays.binds (ps := pStays) fun _ _ _ _ _ _ us hl => match us, hl with | [_, _], _ => rfl
  have mStays := PySem.W.mg_of X G a21
  have FWord := fun_mk (st := sWord) l22 c22 k22
  have bWord := FWord.binds (ps := pWord) fun _ _ _ _ _ _ us hl => match us, hl with | [_, _, _], _ => rfl
  have mWord := PySem.W.mg_of X G a22
  have FByHand := fun_mk (st := sByHand) l23 c23 k23
  have bByHand := FByHand.binds (ps := pByHand) fun _ _ _ _ _ _ us hl => match us, hl with | [_, _], _ => rfl
  have mByHand := PySem.W.mg_of X G a23
  have FLaw := fun_mk (st := sLaw) l24 c24 k24
  have E_NoPlace : HW.ExcCls K CNoPlace := ⟨eg_NoPlace, eh_NoPlace, eb_NoPlace, ei_NoPlace, ea_NoPlace, em_NoPlace, en_, et_⟩
  have E_OnePlace : HW.ExcCls K COnePlace := ⟨eg_OnePlace, eh_OnePlace, eb_OnePlace, ei_OnePlace, ea_OnePlace, em_OnePlace, en_, et_⟩
  have E_Stands : HW.ExcCls K CStands := ⟨eg_Stands, eh_Stands, eb_Stands, ei_Stands, ea_Stands, em_Stands, en_, et_⟩
  have E_NoBridge : HW.ExcCls K CNoBridge := ⟨eg_NoBridge, eh_NoBridge, eb_NoBridge, ei_NoBridge, ea_NoBridge, em_NoBridge, en_, et_⟩
  have y_min := PySem.W.mg_none_of X G z_min
  have y_max := PySem.W.mg_none_of X G z_max
  have y_list := PySem.W.mg_none_of X G z_list
  have y_sorted := PySem.W.mg_none_of X G z_sorted
  have y_len := PySem.W.mg_none_of X G z_len
  have y_isinstance := PySem.W.mg_none_of X G z_isinstance
  have y_int := PySem.W.mg_none_of X G z_int
  have y_bool := PySem.W.mg_none_of X G z_bool
  have y_range := PySem.W.mg_none_of X G z_range
  have y_tuple := PySem.W.mg_none_of X G z_tuple
  have y_str := PySem.W.mg_none_of X G z_str
  have y_ValueError := PySem.W.mg_none_of X G z_ValueError
  refine ⟨PySem.W.fnOf "law" "law" (defArgs sLaw) (defBody sLaw) (defScope sLaw) .none kV24 dc24 pm24 an24 cd24 ct24, fun s v => .of_eq rfl, fun base _ _ => ?_⟩
  have hW : Has l.prog w K mg base "_law_whole" ["_law_found"] 1 spWhole := ⟨_, _, ok_whole FWhole y_isinstance y_int y_bool, bWhole, FWhole.kp, mWhole⟩
  have hC : Has l.prog w K mg base "_law_called" ["_law_k"] 1 spCalled := ⟨_, _, ok_called FCalled, bCalled, FCalled.kp, mCalled⟩
  have hN : Has l.prog w K mg base "neighbours" ["bridges"] 1 (spNeighbours K) := ⟨_, _, ok_neighbours FNeighbours, bNeighbours, FNeighbours.kp, mNeighbours⟩
  have hR : Has l.prog w K mg base "roads_from" ["start", "near"] 1 spRoadsFrom := ⟨_, _, ok_roads_from FRoadsFrom y_len, bRoadsFrom, FRoadsFrom.kp, mRoadsFrom⟩
  have hCh : HasX l.prog w K mg base "check_places" ["places", "one", "other"] 1 (spCheck K CNoPlace) := ⟨_, _, ok_check_places FCheckPlaces m_NoPlace x_NoPlace, bCheckPlaces, FCheckPlaces.kp, mCheckPlaces⟩
  have hWa : HasX l.prog w K mg base "way" ["places", "bridges", "one", "other"] 2 (spWay K CNoPlace) := ⟨_, _, ok_way FWay y_sorted hCh hN hR, bWay, FWay.kp, mWay⟩
  have GB := ok_between (P := l.prog) (w := w) (mg := mg) (base := base) FChartBridgeBetween clChart n_Chart_places m_OnePlace x_OnePlace hCh ⟨_, _, ok_lesser FLesserFirst y_min y_max, bLesserFirst, FLesserFirst.kp, mLesserFirst⟩
  have GBu := ok_build FChartBuild clChart n_Chart_bridges y_sorted m_Stands x_Stands mChartBridgeBetween GB bChartBridgeBetween
  have GPu := ok_pull FChartPull clChart n_Chart_bridges m_NoBridge x_NoBridge mChartBridgeBetween GB bChartBridgeBetween
  have hDo : HasX l.prog w K mg base "do_deed" ["chart", "deed"] 4 (spDo CChart CNoPlace COnePlace CStands CNoBridge) := ⟨_, _, ok_do FDoDeed clChart n_Chart_places n_Chart_bridges mChartBuild GBu bChartBuild mChartPull GPu bChartPull hWa, bDoDeed, FDoDeed.kp, mDoDeed⟩
  have hAn : Has l.prog w K mg base "answer_on" ["chart", "deed"] 5 (spAnsOn CChart) := ⟨_, _, ok_answer_on FAnswerOn m_NoPlace m_OnePlace m_Stands m_NoBridge e_NoPlace_NoPlace e_OnePlace_NoPlace e_OnePlace_OnePlace e_Stands_NoPlace e_Stands_OnePlace e_Stands_Stands e_NoBridge_NoPlace e_NoBridge_OnePlace e_NoBridge_Stands e_NoBridge_NoBridge hDo, bAnswerOn, FAnswerOn.kp, mAnswerOn⟩
  have hAs : Has l.prog w K mg base "answers_on" ["chart", "deeds"] 6 (spAnssOn CChart) := ⟨_, _, ok_answers_on FAnswersOn hAn, bAnswersOn, FAnswersOn.kp, mAnswersOn⟩
  have GI := ok_init (P := l.prog) (w := w) (mg := mg) (base := base) FChartInit clChart n_Chart_places n_Chart_bridges y_list
  exact ok_law FLaw y_range y_list y_min y_max y_sorted m_Chart clChart n_Chart_bridges MChart GI bChartInit ⟨_, _, ok_at FAt y_len, bAt, FAt.kp, mAt⟩ ⟨_, _, ok_upto FUpto y_len, bUpto, FUpto.kp, mUpto⟩ hC ⟨_, _, ok_deeds FDeeds y_len y_range hC, bDeeds, FDeeds.kp, mDeeds⟩
    ⟨_, _, ok_standing FStanding m_Chart clChart n_Chart_bridges MChart GI bChartInit hAs, bStanding, FStanding.kp, mStanding⟩
    ⟨_, _, ok_numbers FNumbers y_isinstance y_list y_len y_range hW, bNumbers, FNumbers.kp, mNumbers⟩ ⟨_, _, ok_stays FStays y_isinstance y_tuple y_len y_str hW, bStays, FStays.kp, mStays⟩
    ⟨_, _, ok_word FWord y_int, bWord, FWord.kp, mWord⟩
    ⟨_, _, ok_by_hand FByHand clChart y_isinstance y_int y_ValueError m_MapError m_NoPlace m_OnePlace m_Stands m_NoBridge e_NoPlace_NoPlace e_NoPlace_OnePlace e_NoPlace_Stands e_NoPlace_NoBridge e_OnePlace_NoPlace e_OnePlace_OnePlace e_OnePlace_Stands e_OnePlace_NoBridge e_Stands_NoPlace e_Stands_OnePlace e_Stands_Stands e_Stands_NoBridge e_NoBridge_NoPlace e_NoBridge_OnePlace e_NoBridge_Stands e_NoBridge_NoBridge e_NoPlace_MapError e_NoPlace_ValueError E_NoPlace e_OnePlace_MapError e_OnePlace_ValueError E_OnePlace e_Stands_MapError e_Stands_ValueError E_Stands e_NoBridge_MapError e_NoBridge_ValueError E_NoBridge mChartBuild GBu bChartBuild mChartPull GPu bChartPull, bByHand, FByHand.kp, mByHand⟩
    ⟨_, _, ok_pairs2 FPairs y_isinstance y_list y_len y_range y_tuple hW, bPairs, FPairs.kp, mPairs⟩
theorem walk {l : PySem.W.OpenLaw} {q : Program} {loose : List Str} {XP : (Str → Option Value) → Heap → Prop} {YP : World → Heap → Prop} {d : DefRec} {K : Params → PySem.W.Frag} (hn : l.most = some 63) (hdf : d.params.defaults = [])
    (hY : ∀ (w : World) (h : Heap), YP w h → (K w.params).In h)
    (F : ∀ (w : World) (mg : Str → Option Value) (fa : Addr) (h : Heap), (K w.params).In h → h.Ns mainGlobals mg → mg d.name = some (.ref fa) →
      ∃ fd : FuncData, (∀ (s : Shared) (u : Value), BindsTo s fd ⟨[u], []⟩ [("_law_script", u)]) ∧ ∀ base : Heap, (K w.params).In base → base.Ns mainGlobals mg → FnOk l.prog w (K w.params) mg base CX0 8 fa fd ["_law_script"] (spLaw (K w.params))) :
    PySem.W.WalkO q loose XP YP l.row.toRowW d [] (fun f vs => PySem.call f vs) :=
  L2.walk_of (n := 63) (k := 8) (x := "_law_script") (CX := fun _ => CX0) (sp := fun w => spLaw (K w.params)) hn (by decide) hdf ⟨rfl, by decide, by decide⟩ hY F (fun _ _ a ns hl _ hS => ⟨a, ns, rfl, hS, hl, fun _ => rfl⟩) fun _ _ _ _ _ z => z
end K08
open PySem PySem.W PyProof.Rows
set_option maxRecDepth 100000 in
set_option maxHeartbeats 0 in
theorem PySem.Challenge.cw_holmway_k08_what_stands_holds : PySem.Challenge.rw_holmway_k08_what_stands.Holds := by
  w_on; o_law; k_head; (case hw => w_witness2)
  k_fill
  refine K08.walk (l := PySem.Challenge.rw_holmway_k08_what_stands) rfl rfl (fun w h Y => PySem.W.kIn_of Y) ?F
  case F =>
    intro w mg fa h KX G hmg
    refine' K08.all_mk KX G hmg ?a_MapError ?a_NoPlace ?a_OnePlace ?a_Stands ?a_NoBridge ?a_Chart ?x_NoPlace ?x_OnePlace ?x_Stands ?x_NoBridge ?e_NoPlace_NoPlace ?e_NoPlace_OnePlace ?e_NoPlace_Stands ?e_NoPlace_NoBridge ?e_OnePlace_NoPlace ?e_OnePlace_OnePlace ?e_OnePlace_Stands ?e_OnePlace_NoBridge ?e_Stands_NoPlace ?e_Stands_OnePlace ?e_Stands_Stands ?e_Stands_NoBridge ?e_NoBridge_NoPlace ?e_NoBridge_OnePlace ?e_NoBridge_Stands ?e_NoBridge_NoBridge ?e_NoPlace_MapError ?e_NoPlace_ValueError ?e_OnePlace_MapError ?e_OnePlace_ValueError ?e_Stands_MapError ?e_Stands_ValueError ?e_NoBridge_MapError ?e_NoBridge_ValueError ?eg_NoPlace ?eh_NoPlace ?eb_NoPlace ?ei_NoPlace ?ea_NoPlace ?em_NoPlace ?eg_OnePlace ?eh_OnePlace ?eb_OnePlace ?ei_OnePlace ?ea_OnePlace ?em_OnePlace ?eg_Stands ?eh_Stands ?eb_Stands ?ei_Stands ?ea_Stands ?em_Stands ?eg_NoBridge ?eh_NoBridge ?eb_NoBridge ?ei_NoBridge ?ea_NoBridge ?em_NoBridge ?en_ ?et_ ?pg_Chart ?hd_Chart ?po_Chart ?sa_Chart ?mk_Chart ?kc_Chart ?n_Chart_places ?n_Chart_bridges ?a1 ?l1 ?c1 ?k1 ?a2 ?l2 ?c2 ?k2 ?a3 ?l3 ?c3 ?k3 ?a4 ?i4 ?l4 ?c4 ?k4 ?a5 ?i5 ?l5 ?c5 ?k5 ?a6 ?i6 ?l6 ?c6 ?k6 ?a7 ?i7 ?l7 ?c7 ?k7 ?a8 ?l8 ?c8 ?k8 ?a9 ?l9 ?c9 ?k9 ?a10 ?l10 ?c10 ?k10 ?a11 ?l11 ?c11 ?k11 ?a12 ?l12 ?c12 ?k12 ?a13 ?l13 ?c13 ?k13 ?a14 ?l14 ?c14 ?k14 ?a15 ?l15 ?c15 ?k15 ?a16 ?l16 ?c16 ?k16 ?a17 ?l17 ?c17 ?k17 ?a18 ?l18 ?c18 ?k18 ?a19 ?l19 ?c19 ?k19 ?a20 ?l20 ?c20 ?k20 ?a21 ?l21 ?c21 ?k21 ?a22 ?l22 ?c22 ?k22 ?a23 ?l23 ?c23 ?k23 ?a24 ?l24 ?c24 ?k24 ?z_min ?z_max ?z_list ?z_sorted ?z_len ?z_isinstance ?z_int ?z_bool ?z_range ?z_tuple ?z_str ?z_ValueError
    (case a_MapError => k_is)
    (case a_NoPlace => k_is)
    (case a_OnePlace => k_is)
    (case a_Stands => k_is)
    (case a_NoBridge => k_is)
    (case a_Chart => k_is)
    (case x_NoPlace => k_exc)
    (case x_OnePlace => k_exc)
    (case x_Stands => k_exc)
    (case x_NoBridge => k_exc)
    (case e_NoPlace_NoPlace => kts_exm)
    (case e_NoPlace_OnePlace => kts_exm)
    (case e_NoPlace_Stands => kts_exm)
    (case e_NoPlace_NoBridge => kts_exm)
    (case e_OnePlace_NoPlace => kts_exm)
    (case e_OnePlace_OnePlace => kts_exm)
    (case e_OnePlace_Stands => kts_exm)
    (case e_OnePlace_NoBridge => kts_exm)
    (case e_Stands_NoPlace => kts_exm)
    (case e_Stands_OnePlace => kts_exm)
    (case e_Stands_Stands => kts_exm)
    (case e_Stands_NoBridge => kts_exm)
    (case e_NoBridge_NoPlace => kts_exm)
    (case e_NoBridge_OnePlace => kts_exm)
    (case e_NoBridge_Stands => kts_exm)
    (case e_NoBridge_NoBridge => kts_exm)
    (case e_NoPlace_MapError => kts_exm)
    (case e_NoPlace_ValueError => kts_exm)
    (case e_OnePlace_MapError => kts_exm)
    (case e_OnePlace_ValueError => kts_exm)
    (case e_Stands_MapError => kts_exm)
    (case e_Stands_ValueError => kts_exm)
    (case e_NoBridge_MapError => kts_exm)
    (case e_NoBridge_ValueError => kts_exm)
    (case eg_NoPlace => k_is); (case eh_NoPlace => k_is); (case eb_NoPlace => k_is); (case ei_NoPlace => k_is); (case ea_NoPlace => k_is); (case em_NoPlace => k_is)
    (case eg_OnePlace => k_is); (case eh_OnePlace => k_is); (case eb_OnePlace => k_is); (case ei_OnePlace => k_is); (case ea_OnePlace => k_is); (case em_OnePlace => k_is)
    (case eg_Stands => k_is); (case eh_Stands => k_is); (case eb_Stands => k_is); (case ei_Stands => k_is); (case ea_Stands => k_is); (case em_Stands => k_is)
    (case eg_NoBridge => k_is); (case eh_NoBridge => k_is); (case eb_NoBridge => k_is); (case ei_NoBridge => k_is); (case ea_NoBridge => k_is); (case em_NoBridge => k_is)
    (case en_ => k_is); (case et_ => k_is)
    (case pg_Chart => k_is); (case hd_Chart => k_is); (case po_Chart => k_is); (case sa_Chart => k_is); (case mk_Chart => k_is); (case kc_Chart => k_is)
    (case n_Chart_places => k_is)
    (case n_Chart_bridges => k_is)
    (case a1 => k_is); (case l1 => k_is); (case c1 => k_is); (case k1 => k_is)
    (case a2 => k_is); (case l2 => k_is); (case c2 => k_is); (case k2 => k_is)
    (case a3 => k_is); (case l3 => k_is); (case c3 => k_is); (case k3 => k_is)
    (case a4 => k_is); (case i4 => k_is); (case l4 => k_is); (case c4 => k_is); (case k4 => k_is)
    (case a5 => k_is); (case i5 => k_is); (case l5 => k_is); (case c5 => k_is); (case k5 => k_is)
    (case a6 => k_is); (case i6 => k_is); (case l6 => k_is); (case c6 => k_is); (case k6 => k_is)
    (case a7 => k_is); (case i7 => k_is); (case l7 => k_is); (case c7 => k_is); (case k7 => k_is)
    (case a8 => k_is); (case l8 => k_is); (case c8 => k_is); (case k8 => k_is)
    (case a9 => k_is); (case l9 => k_is); (case c9 => k_is); (case k9 => k_is)
    (case a10 => k_is); (case l10 => k_is); (case c10 => k_is); (case k10 => k_is)
    (case a11 => k_is); (case l11 => k_is); (case c11 => k_is); (case k11 => k_is)
    (case a12 => k_is); (case l12 => k_is); (case c12 => k_is); (case k12 => k_is)
    (case a13 => k_is); (case l13 => k_is); (case c13 => k_is); (case k13 => k_is)
    (case a14 => k_is); (case l14 => k_is); (case c14 => k_is); (case k14 => k_is)
    (case a15 => k_is); (case l15 => k_is); (case c15 => k_is); (case k15 => k_is)
    (case a16 => k_is); (case l16 => k_is); (case c16 => k_is); (case k16 => k_is)
    (case a17 => k_is); (case l17 => k_is); (case c17 => k_is); (case k17 => k_is)
    (case a18 => k_is); (case l18 => k_is); (case c18 => k_is); (case k18 => k_is)
    (case a19 => k_is); (case l19 => k_is); (case c19 => k_is); (case k19 => k_is)
    (case a20 => k_is); (case l20 => k_is); (case c20 => k_is); (case k20 => k_is)
    (case a21 => k_is); (case l21 => k_is); (case c21 => k_is); (case k21 => k_is)
    (case a22 => k_is); (case l22 => k_is); (case c22 => k_is); (case k22 => k_is)
    (case a23 => k_is); (case l23 => k_is); (case c23 => k_is); (case k23 => k_is)
    (case a24 => k_is); (case l24 => k_is); (case c24 => k_is); (case k24 => k_is)
    (case z_min => k_is)
    (case z_max => k_is)
    (case z_list => k_is)
    (case z_sorted => k_is)
    (case z_len => k_is)
    (case z_isinstance => k_is)
    (case z_int => k_is)
    (case z_bool => k_is)
    (case z_range => k_is)
    (case z_tuple => k_is)
    (case z_str => k_is)
    (case z_ValueError => k_is)
#print axioms PySem.Challenge.cw_holmway_k08_what_stands_holds

