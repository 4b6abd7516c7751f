import PyProof.Rows.All
import Wide.All
import OpenK.AllK
import Wide.FinOn
import Lean
import PyProof.EqAt
import PyProof.EqKinds
import PyProof.TupleCall
import PyProof.TupleOfGen
import PyProof.ListRange
import PyProof.Rows.ZipGen
import KE.KRevIter
import PyProof.NeKinds
import PyProof.CompUse
import KE.KDictSum
import PyProof.Rows.SortWalk
import PyProof.AttrMissHeap
import KE.KDictOf
import PyProof.StationsW
import PyProof.ExcClass2
import PyProof.ExcBaseAll.ValueError
import OpenK.KOwn
import PyProof.RulesAs
import PyProof.Rows.Catch
import PyProof.ExcAttrAll.ValueError
import KE.KIsAll
import PyProof.NsDelKeeps
import KE.KLam
import KE.KTupSum
import KE.KSortTup
import PyProof.SeqI3
import PyProof.EnumStmt
import PyProof.EnumMake
import PyProof.MinMaxWalk
import PyProof.WalkInts
import PyProof.Rows.CallKwBuiltin
import KE.KRevSl
import PySem.Challenge.RW_boxballs_k33_waves
section
-- CHANGE: your row's module here, as the last of these rows
set_option Elab.async false
set_option linter.all false
set_option maxRecDepth 100000
/-! THE HAND LAYER, for ints, bools, texts, own classes, LISTS and tuples (index, slices, in, append, pop ..), calls, loops. Paste it whole ahead of your own text; what your proof does not reach may be deleted. -/
namespace L2
open PySem PySem.Spec PyProof.Rows

/-- a key: an int or a str -/
abbrev Key := Sum Int Str
def keyIs : Key → Value → Bool
  | .inl k, v => Value.isInt k v
  | .inr x, v => Value.isStrOf x v
def keyH (w : World) : Key → Int
  | .inl k => hashInt k
  | .inr x => hashStr w x
theorem keyIs_shape : ∀ {k : Key} {v : Value}, keyIs k v = true → (∃ i t, k = Sum.inl i ∧ v = Value.int i t) ∨ (∃ x t, k = Sum.inr x ∧ v = Value.str x t)
  | .inl i, v, h => by
    obtain ⟨t, e⟩ := Value.isInt_shape (k := i) (v := v) h
    exact .inl ⟨i, t, rfl, e⟩
  | .inr x, v, h => by
    obtain ⟨t, e⟩ := Value.isStrOf_shape (x := x) (v := v) h
    exact .inr ⟨x, t, rfl, e⟩
theorem key_ll (a b : Int) : decide ((Sum.inl a : Key) = Sum.inl b) = (a == b) := by
  by_cases e : a = b
  · subst e; simp
  · have h : ¬ (Sum.inl a : Key) = Sum.inl b := fun q => e (Sum.inl.inj q)
    rw [decide_eq_false h]
    exact (beq_eq_false_iff_ne.mpr e).symm
theorem key_rr (a b : Str) : decide ((Sum.inr a : Key) = Sum.inr b) = decide (a = b) := by
  by_cases e : a = b
  · subst e; simp
  · have h : ¬ (Sum.inr a : Key) = Sum.inr b := fun q => e (Sum.inr.inj q)
    rw [decide_eq_false h, decide_eq_false e]
theorem key_lr (a : Int) (b : Str) : decide ((Sum.inl a : Key) = Sum.inr b) = false := decide_eq_false (fun q => nomatch q)
theorem key_rl (a : Str) (b : Int) : decide ((Sum.inr a : Key) = Sum.inl b) = false := decide_eq_false (fun q => nomatch q)

def mixKind (prog : Program) (w : World) : PySem.KeyKind prog w Key where
  is := keyIs
  hash := keyH w
  inj := fun v a b ha hb => by
    rcases keyIs_shape ha with ⟨i, t, rfl, rfl⟩ | ⟨x, t, rfl, rfl⟩
    · rcases keyIs_shape hb with ⟨j, u, rfl, e⟩ | ⟨y, u, rfl, e⟩
      · injection e with e1 _; rw [e1]
      · exact nomatch e
    · rcases keyIs_shape hb with ⟨j, u, rfl, e⟩ | ⟨y, u, rfl, e⟩
      · exact nomatch e
      · injection e with e1 _; rw [e1]
  byValue := fun k v h => by
    rcases keyIs_shape h with ⟨i, t, rfl, rfl⟩ | ⟨x, t, rfl, rfl⟩ <;> rfl
  pyHash := fun hv h => by
    rcases keyIs_shape hv with ⟨i, t, rfl, rfl⟩ | ⟨x, t, rfl, rfl⟩
    · exact wpAny_pyHash_int h
    · exact wpAny_pyHash_str h
  eqBool := fun hu hv h => by
    rcases keyIs_shape hu with ⟨i, t, rfl, rfl⟩ | ⟨x, t, rfl, rfl⟩
    · rcases keyIs_shape hv with ⟨j, u, rfl, rfl⟩ | ⟨y, u, rfl, rfl⟩
      · rw [key_ll] at h; exact wpAny_eqBool_int h
      · rw [key_lr] at h; exact SeqAt.EqAt.int_str i t y u _ _ _ _ h
    · rcases keyIs_shape hv with ⟨j, u, rfl, rfl⟩ | ⟨y, u, rfl, rfl⟩
      · rw [key_rl] at h; exact SeqAt.EqAt.str_int x t j u _ _ _ _ h
      · rw [key_rr] at h; exact wpAny_eqBool_str h
  «strs» := fun k x t v h => by
    rcases keyIs_shape h with ⟨i, u, rfl, e⟩ | ⟨y, u, rfl, e⟩
    · exact nomatch e
    · injection e with e1 _
      subst e1
      cases v <;> rfl

end L2

namespace L2
open PySem PySem.Spec PyProof.Rows

/-- a value, without the heap -/
inductive V where
  | non | bl (b : Bool) | int (i : Int) | str (x : Str) | byt (b : Array UInt8) | flt (b : UInt64) | ref (a : Addr) | ty (n : String)
  deriving DecidableEq

def RelV : V → Value → Prop
  | .non, u => u = Value.none
  | .bl b, u => u = Value.bool b
  | .int i, u => ∃ t, u = Value.int i t
  | .str x, u => ∃ t, u = Value.str x t
  | .byt b, u => ∃ t, u = Value.bytes b t
  | .flt b, u => ∃ t, u = Value.float b t
  | .ref a, u => u = Value.ref a
  | .ty n, u => u = Value.type n

abbrev Vals : List V → List Value → Prop := Paired RelV
theorem Vals.length {xs : List V} {us : List Value} (r : Vals xs us) : xs.length = us.length := Paired.length r
theorem Vals.get : ∀ {xs : List V} {us : List Value} {i : Nat} {x : V}, Vals xs us → xs[i]? = some x → ∃ u, us[i]? = some u ∧ RelV x u
  | _, _, _, _, .nil, e => by simp at e
  | _, _, 0, _, .cons r _, e => by simp at e; subst e; exact ⟨_, rfl, r⟩
  | _, _, i + 1, x, .cons _ t, e => by
    obtain ⟨u, h1, h2⟩ := Vals.get (i := i) (x := x) t (by simpa using e)
    exact ⟨u, by simpa using h1, h2⟩
theorem Vals.set {x : V} {u : Value} (r : RelV x u) : ∀ {xs : List V} {us : List Value} (i : Nat), Vals xs us → Vals (xs.set i x) (us.set i u)
  | _, _, _, .nil => .nil
  | _, _, 0, .cons _ t => .cons r t
  | _, _, i + 1, .cons q t => .cons q (Vals.set r i t)
theorem Vals.append : ∀ {xs ys : List V} {us ws : List Value}, Vals xs us → Vals ys ws → Vals (xs ++ ys) (us ++ ws)
  | _, _, _, _, .nil, s => s
  | _, _, _, _, .cons r t, s => .cons r (Vals.append t s)
theorem Vals.take : ∀ {xs : List V} {us : List Value} (n : Nat), Vals xs us → Vals (xs.take n) (us.take n)
  | _, _, 0, _ => .nil
  | _, _, _ + 1, .nil => .nil
  | _, _, n + 1, .cons r t => .cons r (Vals.take n t)
theorem Vals.drop : ∀ {xs : List V} {us : List Value} (n : Nat), Vals xs us → Vals (xs.drop n) (us.drop n)
  | _, _, 0, r => r
  | _, _, _ + 1, .nil => .nil
  | _, _, n + 1, .cons _ t => Vals.drop n t
theorem Vals.none_of : ∀ {xs : List V} {us : List Value} {i : Nat}, Vals xs us → xs[i]? = none → us[i]? = none := fun {xs us i} r e => by
  have h1 := r.length
  have h2 : xs.length ≤ i := List.getElem?_eq_none_iff.mp e
  exact List.getElem?_eq_none_iff.mpr (by omega)

def RelO : Option V → Option Value → Prop
  | some v, some u => RelV v u
  | none, none => True
  | _, _ => False
def KV {κ : Type} : List (κ × V) → List (κ × Value) → Prop := Paired fun (p : κ × V) (q : κ × Value) => p.1 = q.1 ∧ RelV p.2 q.2

/-- a key of a dict (00_mix): an int or a text -/
def kV : Key → V
  | .inl i => .int i
  | .inr x => .str x

/-- what stands at a tracked address -/
inductive HO where
  /-- a list -/
  | lst (xs : List V)
  /-- a tuple (never changes) -/
  | tup (xs : List V)
  /-- a dict whose keys are ints and texts; one whose keys are tuples of ints and texts (the empty one is both) -/
  | dK (kvs : List (Key × V)) | dT (kvs : List (List Key × V))
  /-- a set of ints: its members, its size -/
  | set (S : Int → Bool) (n : Nat)
  /-- an instance of the class at C, its dict at dx, its attributes -/
  | ins (C dx : Addr) (fs : List (Str × V))
  /-- the dict of the instance at x -/
  | own (x : Addr)
  /-- the dict of an exception -/
  | xd (fs : List (Str × V))
  /-- a bound method, f of x -/
  | met (f x : Addr)
  /-- a range object lo, lo + 1, .. below hi -/
  | rng (lo hi : Int)
  /-- a thing that is known to the object (the script; a dict while a loop walks it): read, never written while it is so -/
  | frz (o : Obj) (u : HO)
  /-- a code object's table -/
  | tbl (ps : Array Value)
  /-- any other thing, by what is true of its one object (a def of one's own: SetO a S n := HO.ext fun h => ..) -/
  | ext (φ : Heap → Prop)

abbrev Hp := Addr → Option HO
def upd (H : Hp) (a : Addr) (o : HO) : Hp := fun b => if b = a then some o else H b
theorem upd_same {H : Hp} {a : Addr} {o : HO} : upd H a o a = some o := by unfold upd; rw [if_pos rfl]
theorem upd_ne {H : Hp} {a b : Addr} {o : HO} (h : b ≠ a) : upd H a o b = H b := by unfold upd; rw [if_neg h]
/-- two objects of different content stand apart -/
theorem ne_of {H : Hp} {a b : Addr} {o u : HO} (h : H a = some o) (h' : H b = some u) (d : o ≠ u) : a ≠ b := by
  intro e; subst e; rw [h] at h'; exact d (Option.some.inj h')
theorem ne_of_none {H : Hp} {a b : Addr} {o : HO} (h : H a = some o) (h' : H b = none) : a ≠ b := by
  intro e; subst e; rw [h] at h'; cases h'

section
variable (P : Program) (w : World)
def ObjOk (H : Hp) (h : Heap) (a : Addr) : HO → Prop
  | .lst xs => xs.length ≤ sizeLine ∧ ∃ (its : List Value) (n : Nat), Vals xs its ∧ h.get? a = some { cls := .type "list", data := .seq its.toArray n }
  | .tup xs => xs.length ≤ sizeLine ∧ ∃ its : List Value, Vals xs its ∧ IsTup h a its.toArray
  | .dK kvs => kvs.length ≤ sizeLine ∧ (a == sysModules) = false ∧ ∃ vs, KV kvs vs ∧ h.DictOf (mixKind P w) a vs
  | .dT kvs => kvs.length ≤ sizeLine ∧ (a == sysModules) = false ∧ ∃ xs : List (List Key × Addr × Value),
      Paired (fun (p : List Key × V) (q : List Key × Addr × Value) => p.1 = q.1 ∧ H q.2.1 = some (.tup (p.1.map kV)) ∧ RelV p.2 q.2.2) kvs xs ∧
      ∃ o es ep, h.get? a = some o ∧ o.ExactDict ∧ o.data = .dict es ep ∧ es.toList = xs.map (entryOfKey (tupleKind (mixKind P w))) ∧ (xs.map (·.1)).Nodup
  | .set S n => h.SetOf (intKind P w) a S n
  | .ins C dx fs => H dx = some (.own a) ∧ fs.length ≤ 1000 ∧ dx ≠ a ∧ h.get? a = some (PySem.W.instObj C dx) ∧
      ∃ mA, h.Ns1 dx mA ∧ (∀ f, RelO (fs.lookup f) (mA f)) ∧ PySem.Within mA (fs.map (·.1))
  | .own _ => ∃ o, h.get? a = some o
  | .xd fs => ∃ mA, h.Ns1 a mA ∧ ∀ f, RelO (fs.lookup f) (mA f)
  | .rng lo hi => ∃ t u v, h.get? a = some { cls := .type "range", data := .fields #[.int lo t, .int hi u, .int 1 v] }
  | .frz o u => h.get? a = some o ∧ ObjOk H h a u
  | .tbl ps => h.get? a = some { cls := .none, data := .fields ps }
  | .met f x => h.get? a = some (PySem.W.methodObj (.ref f) (.ref x))
  | .ext φ => φ h ∧ (∃ o, h.get? a = some o) ∧ ∀ h1 h2 : Heap, φ h1 → (∀ o, h1.get? a = some o → h2.get? a = some o) → φ h2
/-- the abstract heap is held -/
def HOk (H : Hp) (h : Heap) : Prop := ∀ a o, H a = some o → ObjOk P w H h a o
end

section
variable {P : Program} {w : World} {H H' : Hp} {h h' : Heap} {a : Addr} {o : HO}
theorem ObjOk.lt (x : ObjOk P w H h a o) : a < h.objs.size := by
  cases o with
  | lst xs => obtain ⟨_, _, _, _, e⟩ := x; exact Heap.lt_size e
  | tup xs => obtain ⟨_, _, _, p⟩ := x; exact p.lt
  | dK kvs => obtain ⟨_, _, _, _, o, _, _, e, _⟩ := x; exact Heap.lt_size e
  | dT kvs => obtain ⟨_, _, _, _, o, _, _, e, _⟩ := x; exact Heap.lt_size e
  | set S n => obtain ⟨o, _, _, _, e, _⟩ := x; exact Heap.lt_size e
  | ins C dx fs => obtain ⟨_, _, _, e, _⟩ := x; exact Heap.lt_size e
  | own y => obtain ⟨_, e⟩ := x; exact Heap.lt_size e
  | xd fs => obtain ⟨_, ⟨_, _, _, e, _⟩, _⟩ := x; exact Heap.lt_size e
  | rng lo hi => obtain ⟨_, _, _, e⟩ := x; exact Heap.lt_size e
  | frz ob u => obtain ⟨e, _⟩ := x; exact Heap.lt_size e
  | tbl ps => exact Heap.lt_size (show h.get? a = some _ from x)
  | met f y => exact Heap.lt_size (show h.get? a = some _ from x)
  | ext φ => obtain ⟨_, ⟨_, e⟩, _⟩ := x; exact Heap.lt_size e
theorem Paired.mapP {α β : Type} {F G : α → β → Prop} : ∀ {l₁ : List α} {l₂ : List β}, Paired F l₁ l₂ → (∀ a b, F a b → G a b) → Paired G l₁ l₂
  | _, _, .nil, _ => .nil
  | _, _, .cons r t, f => .cons (f _ _ r) (Paired.mapP t f)
/-- what an object's description leans on: its own object, its own dict, the tuples -/
theorem ObjOk.stay (x : ObjOk P w H h a o) (k : ∀ b u, (b = a ∨ H b = some (.own a)) → h.get? b = some u → h'.get? b = some u)
    (ho : ∀ b, H b = some (.own a) → H' b = some (.own a)) (ht : ∀ b xs, H b = some (.tup xs) → H' b = some (.tup xs)) : ObjOk P w H' h' a o := by
  induction o with
  | lst xs => obtain ⟨z, its, n, r, e⟩ := x; exact ⟨z, its, n, r, k _ _ (.inl rfl) e⟩
  | tup xs => obtain ⟨z, its, r, ob, e, c⟩ := x; exact ⟨z, its, r, ob, k _ _ (.inl rfl) e, c⟩
  | dK kvs => obtain ⟨z, y, vs, r, ob, es, ep, e, c⟩ := x; exact ⟨z, y, vs, r, ob, es, ep, k _ _ (.inl rfl) e, c⟩
  | dT kvs =>
    obtain ⟨z, y, xs, r, ob, es, ep, e, c⟩ := x
    exact ⟨z, y, xs, Paired.mapP r fun p q z => ⟨z.1, ht _ _ z.2.1, z.2.2⟩, ob, es, ep, k _ _ (.inl rfl) e, c⟩
  | set S n => obtain ⟨ob, es, ep, t, e, c⟩ := x; exact ⟨ob, es, ep, t, k _ _ (.inl rfl) e, c⟩
  | ins C dx fs =>
    obtain ⟨d, z, ne, e, mA, ⟨od, es, ep, e2, c⟩, r⟩ := x
    exact ⟨ho _ d, z, ne, k _ _ (.inl rfl) e, mA, ⟨od, es, ep, k _ _ (.inr d) e2, c⟩, r⟩
  | own y => obtain ⟨ob, e⟩ := x; exact ⟨ob, k _ _ (.inl rfl) e⟩
  | xd fs => obtain ⟨mA, ⟨od, es, ep, e, c⟩, r⟩ := x; exact ⟨mA, ⟨od, es, ep, k _ _ (.inl rfl) e, c⟩, r⟩
  | rng lo hi => obtain ⟨t, u, v, e⟩ := x; exact ⟨t, u, v, k _ _ (.inl rfl) e⟩
  | frz ob u ih => obtain ⟨e, q⟩ := x; exact ⟨k _ _ (.inl rfl) e, ih q⟩
  | tbl ps =>
    have e : h.get? a = some { cls := .none, data := .fields ps } := x
    show h'.get? a = some { cls := .none, data := .fields ps }
    exact k a _ (.inl rfl) e
  | met f y =>
    have e : h.get? a = some (PySem.W.methodObj (.ref f) (.ref y)) := x
    show h'.get? a = some (PySem.W.methodObj (.ref f) (.ref y))
    exact k a _ (.inl rfl) e
  | ext φ => obtain ⟨p, ⟨o, e⟩, st⟩ := x; exact ⟨st _ _ p fun o q => k _ _ (.inl rfl) q, ⟨o, k _ _ (.inl rfl) e⟩, st⟩
theorem HOk.lt (x : HOk P w H h) (e : H a = some o) : a < h.objs.size := (x a o e).lt
theorem HOk.fresh (x : HOk P w H h) (e : h.objs.size ≤ a) : H a = none := by
  cases q : H a with
  | none => rfl
  | some u => exact absurd (Nat.lt_of_lt_of_le (x.lt q) e) (Nat.lt_irrefl _)
/-- every object of the heap is kept -/
theorem HOk.kept (x : HOk P w H h) (k : ∀ b u, h.get? b = some u → h'.get? b = some u) : HOk P w H h' := fun a o e =>
  (x a o e).stay (fun b u _ q => k b u q) (fun _ q => q) fun _ _ q => q
/-- a new object is laid and tracked -/
theorem HOk.laid (x : HOk P w H h) (k : ∀ b u, h.get? b = some u → h'.get? b = some u) (hp : h.objs.size ≤ a) (new : ObjOk P w (upd H a o) h' a o) : HOk P w (upd H a o) h' := fun b u e => by
  have hn := x.fresh hp
  by_cases hb : b = a
  · subst hb; rw [upd_same] at e; cases e; exact new
  · rw [upd_ne hb] at e
    exact (x b u e).stay (fun c v _ q => k c v q) (fun c q => by rw [upd_ne (ne_of_none q hn)]; exact q) fun c xs q => by rw [upd_ne (ne_of_none q hn)]; exact q
end

/-- what may be read as u: it is u, or a known u -/
def Rd (H : Hp) (a : Addr) (u : HO) : Prop := H a = some u ∨ ∃ o, H a = some (.frz o u)
theorem Rd.of {H : Hp} {a : Addr} {u : HO} (h : H a = some u) : Rd H a u := .inl h
theorem Rd.ok {P : Program} {w : World} {H : Hp} {h : Heap} {a : Addr} {u : HO} (r : Rd H a u) (x : HOk P w H h) : ObjOk P w H h a u := by
  rcases r with r | ⟨o, r⟩
  · exact x a u r
  · obtain ⟨_, q⟩ := x a _ r
    exact q
/-- what may be written -/
def Mut : Option HO → Prop
  | some (.lst _) => True
  | some (.dK _) => True
  | some (.dT _) => True
  | some (.set _ _) => True
  | some (.ins _ _ _) => True
  | some (.ext _) => True
  | _ => False
section
variable {P : Program} {w : World} {H : Hp} {h h' : Heap} {x e : Addr} {o' : HO}
/-- the object at e is changed: x itself, or the dict of the instance x -/
theorem HOk.write (ok : HOk P w H h) (mu : Mut (H x)) (he : e = x ∨ H e = some (.own x)) (k : ∀ b u, b ≠ e → h.get? b = some u → h'.get? b = some u) (heo : ∃ u, h'.get? e = some u)
    (new : ObjOk P w (upd H x o') h' x o') : HOk P w (upd H x o') h' := fun b u q => by
  have nown : ∀ c y, H c = some (.own y) → c ≠ x := fun c y r z => by subst z; rw [r] at mu; exact mu
  have ntup : ∀ c xs, H c = some (.tup xs) → c ≠ x := fun c xs r z => by subst z; rw [r] at mu; exact mu
  by_cases hb : b = x
  · subst hb; rw [upd_same] at q; cases q; exact new
  · rw [upd_ne hb] at q
    by_cases hbe : b = e
    · have q' : H b = some (.own x) := by
        rcases he with z | z
        · exact absurd (hbe.trans z) hb
        · rw [hbe]; exact z
      rw [q] at q'; cases q'
      obtain ⟨v, hv⟩ := heo
      exact ⟨v, by rw [hbe]; exact hv⟩
    · refine (ok b u q).stay (fun c v hc r => k c v ?_ r) (fun c r => by rw [upd_ne (nown c b r)]; exact r) fun c xs r => by rw [upd_ne (ntup c xs r)]; exact r
      rcases hc with rfl | hc
      · exact hbe
      · rintro rfl
        rcases he with z | z
        · exact nown c b hc z
        · rw [hc] at z; cases z; exact hb rfl
end

/-! ### kept unless tracked; of the frames at fs (the callers') the slots may change (an exception that passes writes there); of the records at ex (iterators) nothing is said -/
structure Un (fs ex : List Addr) (H H' : Hp) (h h' : Heap) : Prop where
  keep : ∀ b o, h.get? b = some o → H b = none → b ∉ fs → b ∉ ex → h'.get? b = some o
  slot : ∀ b o, h.get? b = some o → H b = none → b ∈ fs → b ∉ ex → ∃ sl, h'.get? b = some { o with slots := sl }
  free : ∀ b o, h.get? b = some o → H b = none → b ∉ ex → H' b = none
  there : ∀ b o, h.get? b = some o → b ∉ ex → ∃ o', h'.get? b = some o'
  tups : ∀ b xs, H b = some (.tup xs) → H' b = some (.tup xs)
  frzs : ∀ b o u, H b = some (.frz o u) → H' b = some (.frz o u)
  tbls : ∀ b ps, H b = some (.tbl ps) → ∃ more, H' b = some (.tbl (ps ++ more))
section
variable {fs fs' ex ex' : List Addr} {H H1 H2 : Hp} {h h1 h2 h' : Heap} {a x e : Addr} {o : HO}
theorem Un.any (u : Un fs ex H H1 h h1) {b : Addr} {ob : Obj} (q : h.get? b = some ob) (n : H b = none) (hx : b ∉ ex) : ∃ sl, h1.get? b = some { ob with slots := sl } := by
  by_cases hb : b ∈ fs
  · exact u.slot b ob q n hb hx
  · exact ⟨ob.slots, u.keep b ob q n hb hx⟩
theorem Un.trans (a : Un fs ex H H1 h h1) (b : Un fs ex H1 H2 h1 h2) : Un fs ex H H2 h h2 where
  keep := fun c ob q n hc hx => b.keep c ob (a.keep c ob q n hc hx) (a.free c ob q n hx) hc hx
  slot := fun c ob q n hc hx => by
    obtain ⟨sl, e1⟩ := a.slot c ob q n hc hx
    obtain ⟨sl', e2⟩ := b.slot c _ e1 (a.free c ob q n hx) hc hx
    exact ⟨sl', e2⟩
  free := fun c ob q n hx => by
    obtain ⟨o', e1⟩ := a.there c ob q hx
    exact b.free c o' e1 (a.free c ob q n hx) hx
  there := fun c ob q hx => by
    obtain ⟨o', e1⟩ := a.there c ob q hx
    exact b.there c o' e1 hx
  tups := fun c xs q => b.tups c xs (a.tups c xs q)
  frzs := fun c ob xs q => b.frzs c ob xs (a.frzs c ob xs q)
  tbls := fun c ps q => by
    obtain ⟨m1, e1⟩ := a.tbls c ps q
    obtain ⟨m2, e2⟩ := b.tbls c _ e1
    exact ⟨m1 ++ m2, by rw [e2, Array.append_assoc]⟩
theorem Un.kept (k : ∀ b u, h.get? b = some u → h'.get? b = some u) : Un fs ex H H h h' :=
  ⟨fun b ob q _ _ _ => k b ob q, fun b ob q _ _ _ => ⟨ob.slots, k b ob q⟩, fun _ _ _ n _ => n, fun b ob q _ => ⟨ob, k b ob q⟩, fun _ _ q => q, fun _ _ _ q => q, fun _ ps q => ⟨#[], by rw [q]; simp⟩⟩
theorem Un.refl : Un fs ex H H h h := Un.kept fun _ _ q => q
theorem Un.laid (k : ∀ b u, h.get? b = some u → h'.get? b = some u) (hp : h.objs.size ≤ a) (hn : H a = none) : Un fs ex H (upd H a o) h h' where
  keep := fun b u q _ _ _ => k b u q
  slot := fun b u q _ _ _ => ⟨u.slots, k b u q⟩
  free := fun b u q n _ => by rw [upd_ne (Nat.ne_of_lt (Nat.lt_of_lt_of_le (Heap.lt_size q) hp))]; exact n
  there := fun b u q _ => ⟨u, k b u q⟩
  tups := fun b xs q => by rw [upd_ne (ne_of_none q hn)]; exact q
  frzs := fun b u xs q => by rw [upd_ne (ne_of_none q hn)]; exact q
  tbls := fun b ps q => ⟨#[], by rw [upd_ne (ne_of_none q hn), q]; simp⟩
theorem Un.write (mu : Mut (H x)) (he : e = x ∨ H e = some (.own x)) (k : ∀ b u, b ≠ e → h.get? b = some u → h'.get? b = some u) (heo : ∃ u, h'.get? e = some u) : Un fs ex H (upd H x o) h h' := by
  have hx : ∀ b, H b = none → b ≠ x := fun b n z => by subst z; rw [n] at mu; exact mu
  have hb : ∀ b, H b = none → b ≠ e := fun b n z => by
    subst z
    rcases he with r | r
    · exact hx b n r
    · rw [n] at r; cases r
  have hm : ∀ b u, H b = some u → ¬ Mut (some u) → b ≠ x := fun b u q nm z => by subst z; rw [q] at mu; exact nm mu
  refine ⟨fun b u q n _ _ => k b u (hb b n) q, fun b u q n _ _ => ⟨u.slots, k b u (hb b n) q⟩, fun b u q n _ => by rw [upd_ne (hx b n)]; exact n, fun b u q _ => ?_,
    fun b xs q => by rw [upd_ne (hm b _ q fun z => z)]; exact q, fun b u xs q => by rw [upd_ne (hm b _ q fun z => z)]; exact q, fun b ps q => ⟨#[], by rw [upd_ne (hm b _ q fun z => z), q]; simp⟩⟩
  by_cases hbe : b = e
  · subst hbe; exact heo
  · exact ⟨u, k b u hbe q⟩
theorem Un.mono (u : Un fs ex H H1 h h1) (hs : ∀ b ∈ fs, b ∈ fs') (hx : ∀ b ∈ ex, b ∈ ex') : Un fs' ex' H H1 h h1 :=
  ⟨fun b ob q n hb he => u.keep b ob q n (fun z => hb (hs b z)) fun z => he (hx b z), fun _ _ q n _ he => u.any q n fun z => he (hx _ z), fun b ob q n he => u.free b ob q n fun z => he (hx b z), fun b ob q he => u.there b ob q fun z => he (hx b z), u.tups, u.frzs, u.tbls⟩
end

/-! ### the heap without what is tracked -/
def trk (h : Heap) (H : Hp) : List Addr := (List.range h.objs.size).filter fun a => (H a).isSome
def hidT (h : Heap) (H : Hp) : Heap := PySem.W.hideAll h (trk h H)
theorem hidT_size (h : Heap) (H : Hp) : (hidT h H).objs.size = h.objs.size := PySem.W.hideAll_size _ _
theorem hidT_get {h : Heap} {H : Hp} {b : Addr} {o : Obj} (e : h.get? b = some o) (n : H b = none) : (hidT h H).get? b = some o :=
  PySem.W.hideAll_get _ e fun hm => by
    have q : (H b).isSome = true := (List.mem_filter.mp hm).2
    rw [n] at q; simp at q
theorem of_hidT {h : Heap} {H : Hp} {b : Addr} {o : Obj} (e : (hidT h H).get? b = some o) : h.get? b = some o ∧ H b = none := by
  have e' : h.get? b = some o := PySem.W.of_hideAll (trk h H) e
  refine ⟨e', ?_⟩
  cases q : H b with
  | none => rfl
  | some x =>
    have hm : b ∈ trk h H := List.mem_filter.mpr ⟨List.mem_range.mpr (Heap.lt_size e'), by simp [q]⟩
    have z : (hidT h H).get? b = none := PySem.W.hideAll_none (trk h H) hm
    rw [z] at e; cases e

/-! ### OpenK's ledger, filled with every new object but one -/
def allNews (g h : Heap) (L : Addr) : List (Addr × Obj) := (List.range h.objs.size).filterMap fun a => if a = L ∨ (g.get? a).isSome = true then none else (h.get? a).map fun o => (a, o)
def rest (g h : Heap) (L d : Addr) : List (Addr × Obj) := (allNews g h L).filter fun p => decide (p.1 ≠ d)
end L2

namespace L2
open PySem PySem.Spec PyProof.Rows

/-- the module's facts, over the base: the heap at the law's entry without what is tracked there -/
structure Mod (K : PySem.W.Frag) (mg : Str → Option Value) (base : Heap) : Prop where
  kin : K.In base
  glob : base.Ns mainGlobals mg
  blt : ∃ mb, base.Ns builtinsNs mb ∧ ∀ x : Str, x ≠ "__name__" → mb x = bootBuiltins x
  nolimit : base.NoLimit

/-- the context: a def's body (or a comprehension's block) running. base: fixed through the whole law; s₀, H₀: the entry; outer: the frames whose slots others may change (a def's callers); stack: all frames that run;
   ex: iterators that were made ahead of the entry and are walked here (a comprehension's); fn: the names whose cells were made at the entry (a def: all; a comprehension's block: its own); calm: not within an except suite; pn: pins that every state bears; xe: what is wanted of an exception that leaves the code -/
structure Cx where
  prog : Program
  w : World
  K : PySem.W.Frag
  mg : Str → Option Value
  base : Heap
  A : Around
  N : List Str
  s₀ : Shared
  H₀ : Hp
  env : Env
  outer : List Env
  stack : List Env
  ex : List Addr
  fn : Str → Bool
  calm : Bool
  pn : List (Addr × Obj)
  xe : Value → Shared → Prop
/-- the callers' frames -/
def frs (l : List Env) : List Addr := l.filterMap (·.frame)
abbrev Cx.fs (X : Cx) : List Addr := frs X.outer

def Vis (sc : Scope) (x : Str) : Prop := sc.names.lookup x = some .local ∨ sc.names.lookup x = some .cell ∨ sc.names.lookup x = some .free
def Loc (sc : Scope) (x : Str) : Prop := sc.names.lookup x = some .local ∨ sc.names.lookup x = some .cell
def Look (env : Env) (h : Heap) (m : Str → Option Value) (x : Str) (u : Value) : Prop :=
  (env.kindOf x = some .local ∧ m x = some u) ∨ ((env.kindOf x = some .cell ∨ env.kindOf x = some .free) ∧ ∃ c, env.cells.lookup x = some c ∧ h.IsCell c (some u))

structure Cx.Ok (X : Cx) : Prop where
  mod : Mod X.K X.mg X.base
  kind : X.env.scope.kind = .function
  glob : X.env.globals = mainGlobals
  blt : X.env.builtins = builtinsNs
  above : X.s₀.heap.objs.size ≤ X.env.locals
  inj : ∀ x y c, X.env.cells.lookup x = some c → X.env.cells.lookup y = some c → x = y
  has : ∀ x, (X.env.kindOf x = some .cell ∨ X.env.kindOf x = some .free) → ∃ c, X.env.cells.lookup x = some c
  cab : ∀ x c, X.fn x = true → X.env.cells.lookup x = some c → X.s₀.heap.objs.size ≤ c
  hd : X.calm = true → X.A.handled = none
  frames : X.A.frames = some X.stack
  stk : X.stack = X.outer ∨ (X.stack = X.env :: X.outer ∧ X.env.frame = some X.env.locals)
  exf : ∀ b ∈ X.ex, b ≠ X.env.locals ∧ ∀ x c, X.env.cells.lookup x = some c → c ≠ b
  bs : ∀ b o, X.base.get? b = some o → X.s₀.heap.get? b = some o ∧ X.H₀ b = none
  bsz : X.base.objs.size ≤ X.s₀.heap.objs.size
  noex : ∀ b o, X.base.get? b = some o → b ∉ X.ex
  exfs : ∀ b ∈ X.ex, b ∉ X.fs
  funs : X.s₀.heap.FunFrames X.base X.outer
  frf : ∀ b ∈ X.fs, X.H₀ b = none

structure Inv (X : Cx) (pins : List (Addr × Obj)) (σ : List (Option V)) (H : Hp) (s : Shared) : Prop where
  ok : X.Ok
  os : s.os = X.s₀.os
  bare : AllBare s.gens
  base : Un X.fs X.ex X.H₀ H X.s₀.heap s.heap
  loc : ∃ m, s.heap.Ns X.env.locals m ∧ ∀ (i : Nat) (x : Str) (v : V), X.N[i]? = some x → σ[i]? = some (some v) → Vis X.env.scope x → ∃ u, RelV v u ∧ Look X.env s.heap m x u
  cell : ∀ x c, X.env.cells.lookup x = some c → ∃ v, s.heap.IsCell c v
  free : H X.env.locals = none
  freeC : ∀ x c, X.env.cells.lookup x = some c → H c = none
  pin : ∀ p ∈ X.pn ++ pins, s.heap.get? p.1 = some p.2 ∧ H p.1 = none ∧ p.1 ≠ X.env.locals ∧ p.1 ∉ X.fs ∧ ∀ v, p.2.data ≠ .cell v
  hok : HOk X.prog X.w H s.heap
  len : σ.length = X.N.length

section
variable {X : Cx} {pins : List (Addr × Obj)} {σ : List (Option V)} {H H' : Hp} {s : Shared} {h' : Heap}

theorem Cx.Ok.nofr (ok : X.Ok) {b : Addr} {o : Obj} (e : X.base.get? b = some o) : b ∉ X.fs := fun hb => by
  have := (ok.funs.mem hb).1
  rw [e] at this; cases this
theorem Inv.bs (I : Inv X pins σ H s) : ∀ b o, X.base.get? b = some o → s.heap.get? b = some o ∧ H b = none := fun b o e =>
  ⟨I.base.keep b o (I.ok.bs b o e).1 (I.ok.bs b o e).2 (I.ok.nofr e) (I.ok.noex b o e), I.base.free b o (I.ok.bs b o e).1 (I.ok.bs b o e).2 (I.ok.noex b o e)⟩
theorem Inv.bk (I : Inv X pins σ H s) : ∀ b o, X.base.get? b = some o → s.heap.get? b = some o := fun b o e => (I.bs b o e).1
theorem Inv.mod (I : Inv X pins σ H s) : Mod X.K X.mg X.base := I.ok.mod
theorem Inv.kIn (I : Inv X pins σ H s) : X.K.In s.heap := I.ok.mod.kin.keeps I.bk
theorem Inv.nolimit (I : Inv X pins σ H s) : s.heap.NoLimit := I.ok.mod.nolimit.keeps I.bk
/-- the frame over the base: for OpenK's rules (K.In X.base is I.mod.kin) -/
theorem Inv.fr (I : Inv X pins σ H s) : ∃ m, Fr X.base X.env.locals s.heap m :=
  let ⟨m, hn, _⟩ := I.loc
  ⟨m, hn, I.bk, Nat.le_trans I.ok.bsz I.ok.above⟩
theorem Inv.lt (I : Inv X pins σ H s) : X.env.locals < s.heap.objs.size := let ⟨_, hn, _⟩ := I.loc; hn.lt
theorem Inv.sz (I : Inv X pins σ H s) : X.s₀.heap.objs.size ≤ s.heap.objs.size := Nat.le_trans I.ok.above (Nat.le_of_lt I.lt)
theorem Inv.nofs (I : Inv X pins σ H s) {a : Addr} (h : s.heap.objs.size ≤ a) : a ∉ X.fs := fun hb => by
  obtain ⟨_, o, ho, _⟩ := I.ok.funs.mem hb
  exact absurd (Nat.lt_of_lt_of_le (Heap.lt_size ho) (Nat.le_trans I.sz h)) (Nat.lt_irrefl _)
theorem Inv.cne (I : Inv X pins σ H s) : ∀ x c, X.env.cells.lookup x = some c → c ≠ X.env.locals := fun x c e z => by
  obtain ⟨v, o, ho, hd⟩ := I.cell x c e
  obtain ⟨m, ⟨o', es, ep, ho', hd', _⟩, _⟩ := I.loc
  rw [z, ho'] at ho; cases ho; rw [hd'] at hd; cases hd
theorem Inv.funs (I : Inv X pins σ H s) : s.heap.FunFrames X.base X.outer := by
  have all : ∀ (l : List Env), (∀ b ∈ frs l, b ∈ X.fs) → X.s₀.heap.FunFrames X.base l → s.heap.FunFrames X.base l := by
    intro l
    induction l with
    | nil => intro _ _; trivial
    | cons env r ih =>
      intro hs hl
      obtain ⟨hk, ⟨L, o, hf, hn, ho, hd⟩, hr⟩ := hl
      have hL : L ∈ X.fs := hs L (by unfold frs; rw [List.filterMap_cons, hf]; exact List.mem_cons_self)
      obtain ⟨sl, e⟩ := I.base.slot L o ho (I.ok.frf L hL) hL fun z => I.ok.exfs L z hL
      exact ⟨hk, ⟨L, _, hf, hn, e, hd⟩, ih (fun b hb => hs b (by unfold frs; rw [List.filterMap_cons, hf]; exact List.mem_cons_of_mem _ hb)) hr⟩
  exact all X.outer (fun _ hb => hb) I.ok.funs

/-- the frames that run, for a call -/
theorem Inv.stack (I : Inv X pins σ H s) : s.heap.FunFrames X.base X.stack := by
  rcases I.ok.stk with e | ⟨e, hf⟩
  · rw [e]; exact I.funs
  · rw [e]
    obtain ⟨m, hn, _⟩ := I.loc
    refine .cons (by rw [I.ok.kind]; decide) hf hn ?_ I.funs
    exact Heap.get?_none_of_le (Nat.le_trans I.ok.bsz I.ok.above)
theorem Inv.stkSub (I : Inv X pins σ H s) : ∀ b ∈ frs X.stack, b ∈ X.env.locals :: X.fs := fun b hb => by
  rcases I.ok.stk with e | ⟨e, hf⟩
  · rw [e] at hb; exact List.mem_cons_of_mem _ hb
  · rw [e] at hb
    unfold frs at hb
    rw [List.filterMap_cons, hf] at hb
    exact hb
theorem Inv.stkFree (I : Inv X pins σ H s) : ∀ b ∈ frs X.stack, H b = none := fun b hb => by
  rcases List.mem_cons.mp (I.stkSub b hb) with e | hb
  · rw [e]; exact I.free
  · obtain ⟨_, o, ho, _⟩ := I.ok.funs.mem hb
    exact I.base.free b o ho (I.ok.frf b hb) fun z => I.ok.exfs b z hb

/-- THE STEP: the untracked objects but the frame and the records at ch are kept (the callers' frames up to slots), the frame's map is kept, the new abstract heap is held -/
theorem Inv.step {g' : Array GenState} {t' : Nat} {d' : Drawn} {ch : List Addr} (I : Inv X pins σ H s)
    (hch : ∀ b ∈ ch, (b ∈ X.ex ∨ X.s₀.heap.objs.size ≤ b) ∧ b ≠ X.env.locals ∧ (∀ x c, X.env.cells.lookup x = some c → c ≠ b) ∧ ∀ p ∈ X.pn ++ pins, p.1 ≠ b)
    (keep : ∀ b o, b ≠ X.env.locals → b ∉ X.fs → b ∉ ch → s.heap.get? b = some o → H b = none → h'.get? b = some o)
    (slot : ∀ b o, b ≠ X.env.locals → b ∈ X.fs → b ∉ ch → s.heap.get? b = some o → H b = none → ∃ sl, h'.get? b = some { o with slots := sl }) (free : ∀ b o, b ∉ ch → s.heap.get? b = some o → H b = none → H' b = none)
    (there : ∀ b o, b ∉ ch → s.heap.get? b = some o → ∃ o', h'.get? b = some o')
    (tups : ∀ b xs, H b = some (.tup xs) → H' b = some (.tup xs)) (frzs : ∀ b o u, H b = some (.frz o u) → H' b = some (.frz o u)) (tbls : ∀ b ps, H b = some (.tbl ps) → ∃ more, H' b = some (.tbl (ps ++ more)))
    (ns : ∀ m, s.heap.Ns X.env.locals m → h'.Ns X.env.locals m) (hok : HOk X.prog X.w H' h') (hg : AllBare g') :
    Inv X pins σ H' { s with heap := h', gens := g', drawn := d', toks := t' } := by
  have neL : ∀ b o, X.s₀.heap.get? b = some o → b ≠ X.env.locals := fun b o e => Nat.ne_of_lt (Nat.lt_of_lt_of_le (Heap.lt_size e) I.ok.above)
  have neC : ∀ b o, X.s₀.heap.get? b = some o → b ∉ X.ex → b ∉ ch := fun b o e hx hb => by
    rcases (hch b hb).1 with z | z
    · exact hx z
    · exact absurd (Nat.lt_of_lt_of_le (Heap.lt_size e) z) (Nat.lt_irrefl _)
  have cellK : ∀ x c, X.env.cells.lookup x = some c → ∀ v, s.heap.IsCell c v → h'.IsCell c v := fun x c e v ⟨o, ho, hd⟩ => by
    have nch : c ∉ ch := fun z => (hch c z).2.2.1 x c e rfl
    by_cases hc : c ∈ X.fs
    · obtain ⟨sl, q⟩ := slot c o (I.cne x c e) hc nch ho (I.freeC x c e)
      exact ⟨_, q, hd⟩
    · exact ⟨o, keep c o (I.cne x c e) hc nch ho (I.freeC x c e), hd⟩
  refine ⟨I.ok, I.os, hg, ⟨fun b o e n hb hx => ?_, fun b o e n hb hx => ?_, fun b o e n hx => ?_, fun b o e hx => ?_, fun b xs e => tups b xs (I.base.tups b xs e), fun b o xs e => frzs b o xs (I.base.frzs b o xs e), fun b ps e => ?_⟩, ?_, fun x c e => ?_, ?_, fun x c e => ?_, fun p hp => ?_, hok, I.len⟩
  · exact keep b o (neL b o e) hb (neC b o e hx) (I.base.keep b o e n hb hx) (I.base.free b o e n hx)
  · obtain ⟨sl, e1⟩ := I.base.slot b o e n hb hx
    obtain ⟨sl', e2⟩ := slot b _ (neL b o e) hb (neC b o e hx) e1 (I.base.free b o e n hx)
    exact ⟨sl', e2⟩
  · obtain ⟨o', e1⟩ := I.base.there b o e hx
    exact free b o' (neC b o e hx) e1 (I.base.free b o e n hx)
  · obtain ⟨o', e1⟩ := I.base.there b o e hx
    exact there b o' (neC b o e hx) e1
  · obtain ⟨m1, e1⟩ := I.base.tbls b ps e
    obtain ⟨m2, e2⟩ := tbls b _ e1
    exact ⟨m1 ++ m2, by rw [e2, Array.append_assoc]⟩
  · obtain ⟨m, hn, hl⟩ := I.loc
    refine ⟨m, ns m hn, fun i x v e1 e2 e3 => ?_⟩
    obtain ⟨u, r, l⟩ := hl i x v e1 e2 e3
    refine ⟨u, r, ?_⟩
    rcases l with l | ⟨k, c, e, z⟩
    · exact .inl l
    · exact .inr ⟨k, c, e, cellK x c e _ z⟩
  · obtain ⟨v, z⟩ := I.cell x c e
    exact ⟨v, cellK x c e v z⟩
  · obtain ⟨m, ⟨o, _, _, ho, _⟩, _⟩ := I.loc
    exact free _ o (fun z => (hch _ z).2.1 rfl) ho I.free
  · obtain ⟨v, o, ho, hd⟩ := I.cell x c e
    exact free c o (fun z => (hch c z).2.2.1 x c e rfl) ho (I.freeC x c e)
  · obtain ⟨e, n, ne, nf, d⟩ := I.pin p hp
    have nch : p.1 ∉ ch := fun z => (hch p.1 z).2.2.2 p hp rfl
    exact ⟨keep p.1 p.2 ne nf nch e n, free p.1 p.2 nch e n, ne, nf, d⟩
/-- .. where the frame's own object is kept too -/
theorem Inv.un {t' : Nat} (I : Inv X pins σ H s) (u : Un X.fs [] H H' s.heap h') (hok : HOk X.prog X.w H' h') : Inv X pins σ H' { s with heap := h', toks := t' } := by
  obtain ⟨m, ⟨o, es, ep, ho, r⟩, _⟩ := id I.loc
  obtain ⟨sl, hL⟩ := u.any ho I.free (by simp)
  exact I.step (g' := s.gens) (d' := s.drawn) (ch := []) (fun _ z => nomatch z) (fun b o _ hb _ e n => u.keep b o e n hb (by simp)) (fun b o _ hb _ e n => u.slot b o e n hb (by simp)) (fun b o _ e n => u.free b o e n (by simp)) (fun b o _ e => u.there b o e (by simp)) u.tups u.frzs u.tbls (fun m' hm => by
    obtain ⟨o', es', ep', ho', r'⟩ := hm
    rw [ho] at ho'; cases ho'
    exact ⟨_, es', ep', hL, r'⟩) hok I.bare
/-- behind a call (or a comprehension's block): the slots of this frame may have changed too, the records at ch may have turned -/
theorem Inv.call {g' : Array GenState} {t' : Nat} {d' : Drawn} {ch : List Addr} (I : Inv X pins σ H s) (u : Un (frs X.stack) ch H H' s.heap h') (hok : HOk X.prog X.w H' h') (hg : AllBare g')
    (hch : ∀ b ∈ ch, (b ∈ X.ex ∨ X.s₀.heap.objs.size ≤ b) ∧ b ≠ X.env.locals ∧ (∀ x c, X.env.cells.lookup x = some c → c ≠ b) ∧ ∀ p ∈ X.pn ++ pins, p.1 ≠ b) :
    Inv X pins σ H' { s with heap := h', gens := g', drawn := d', toks := t' } := by
  obtain ⟨m, ⟨o, es, ep, ho, r⟩, _⟩ := id I.loc
  obtain ⟨sl, hL⟩ := u.any ho I.free fun z => (hch _ z).2.1 rfl
  exact I.step (ch := ch) hch (fun b o hL hb hc e n => u.keep b o e n (fun z => (List.mem_cons.mp (I.stkSub b z)).elim hL hb) hc) (fun b o _ _ hc e n => u.any e n hc) (fun b o hc e n => u.free b o e n hc) (fun b o hc e => u.there b o e hc) u.tups u.frzs u.tbls (fun m' hm => by
    obtain ⟨o', es', ep', ho', r'⟩ := hm
    rw [ho] at ho'; cases ho'
    exact ⟨_, es', ep', hL, r'⟩) hok hg
/-- an untracked record of ours (an iterator) has turned -/
theorem Inv.turned {t' : Nat} {it : Addr} (I : Inv X pins σ H s) (k : ∀ b o, b ≠ it → s.heap.get? b = some o → h'.get? b = some o) (hn : H it = none) (hL : it ≠ X.env.locals)
    (h1 : it ∈ X.ex ∨ X.s₀.heap.objs.size ≤ it) (h2 : ∀ x c, X.env.cells.lookup x = some c → c ≠ it) (h3 : ∀ p ∈ X.pn ++ pins, p.1 ≠ it) : Inv X pins σ H { s with heap := h', toks := t' } := by
  have nit : ∀ b u, H b = some u → b ≠ it := fun b u e z => by rw [z, hn] at e; cases e
  refine I.step (g' := s.gens) (d' := s.drawn) (ch := [it]) (fun b hb => ?_) (fun b o _ _ hc e _ => k b o (fun z => hc (by simp [z])) e) (fun b o _ _ hc e _ => ⟨o.slots, k b o (fun z => hc (by simp [z])) e⟩) (fun _ _ _ _ n => n)
    (fun b o hc e => ⟨o, k b o (fun z => hc (by simp [z])) e⟩) (fun _ _ e => e) (fun _ _ _ e => e) (fun b ps e => ⟨#[], by rw [e]; simp⟩) (fun m hm => ?_) (fun b u e => ?_) I.bare
  · have e : b = it := by simpa using hb
    subst e
    exact ⟨h1, hL, h2, h3⟩
  · obtain ⟨o, es, ep, ho, r⟩ := hm
    exact ⟨o, es, ep, k _ o (Ne.symm hL) ho, r⟩
  · refine (I.hok b u e).stay (fun c v hc q => k c v ?_ q) (fun _ q => q) fun _ _ q => q
    rcases hc with z | z
    · rw [z]; exact nit b u e
    · exact nit c _ z
theorem Inv.tok (I : Inv X pins σ H s) (t : Nat) : Inv X pins σ H { s with toks := t } := I.un (h' := s.heap) (t' := t) Un.refl I.hok
/-- all objects kept -/
theorem Inv.kept {t' : Nat} (I : Inv X pins σ H s) (k : ∀ b u, s.heap.get? b = some u → h'.get? b = some u) : Inv X pins σ H { s with heap := h', toks := t' } := I.un (Un.kept k) (I.hok.kept k)
/-- a new object laid and tracked -/
theorem Inv.laid {a : Addr} {o : HO} {t' : Nat} (I : Inv X pins σ H s) (k : ∀ b u, s.heap.get? b = some u → h'.get? b = some u) (hp : s.heap.objs.size ≤ a) (new : ObjOk X.prog X.w (upd H a o) h' a o) :
    Inv X pins σ (upd H a o) { s with heap := h', toks := t' } := I.un (Un.laid k hp (I.hok.fresh hp)) (I.hok.laid k hp new)
/-- an object written -/
theorem Inv.write {x e : Addr} {o : HO} {t' : Nat} (I : Inv X pins σ H s) (mu : Mut (H x)) (he : e = x ∨ H e = some (.own x)) (k : ∀ b u, b ≠ e → s.heap.get? b = some u → h'.get? b = some u) (heo : ∃ u, h'.get? e = some u)
    (new : ObjOk X.prog X.w (upd H x o) h' x o) : Inv X pins σ (upd H x o) { s with heap := h', toks := t' } := I.un (Un.write mu he k heo) (I.hok.write mu he k heo new)
theorem Inv.pins_of {pins' : List (Addr × Obj)} (I : Inv X pins σ H s) (h : ∀ p ∈ pins', s.heap.get? p.1 = some p.2 ∧ H p.1 = none ∧ p.1 ≠ X.env.locals ∧ p.1 ∉ X.fs ∧ ∀ v, p.2.data ≠ .cell v) : Inv X pins' σ H s :=
  ⟨I.ok, I.os, I.bare, I.base, I.loc, I.cell, I.free, I.freeC, fun p hp => (List.mem_append.mp hp).elim (fun z => I.pin p (List.mem_append_left _ z)) (h p), I.hok, I.len⟩

theorem nodup_ix {N : List Str} (hN : N.Nodup) {i j : Nat} {x : Str} (a : N[i]? = some x) (b : N[j]? = some x) : i = j := by
  obtain ⟨h1, e1⟩ := List.getElem?_eq_some_iff.mp a
  obtain ⟨h2, e2⟩ := List.getElem?_eq_some_iff.mp b
  exact (List.getElem_inj hN).mp (e1.trans e2.symm)

/-- a name is stored; what changed -/
theorem store_ok2 {M : Model} {A : Around} {E : Value → Shared → Prop} {i : Nat} {x : Str} {v : V} {u : Value} {Q : Unit → Shared → Prop} (I : Inv X pins σ H s) (hN : X.N.Nodup) (hi : X.N[i]? = some x) (hx : Loc X.env.scope x) (r : RelV v u)
    (h : ∀ s', Inv X pins (σ.set i (some v)) H s' → (∃ a, Heap.SameBut a s.heap s'.heap ∧ (a = X.env.locals ∨ X.env.cells.lookup x = some a)) → Q () s') (hf : X.fn x = true ∨ X.env.scope.names.lookup x = some .local := by first | exact .inl rfl | exact .inr rfl | assumption) : wpAny M A (storeName X.env x u) Q E s := by
  obtain ⟨m, hn, hl⟩ := id I.loc
  have hcls : (X.env.scope.kind == .class || (X.env.scope.kind == .module && X.env.locals != X.env.globals)) = false := by rw [I.ok.kind]; rfl
  have hiσ : i < σ.length := by rw [I.len]; exact (List.getElem?_eq_some_iff.mp hi).1
  have cne := I.cne
  have tracked : ∀ {a : Addr} {h' : Heap}, (∃ o, s.heap.get? a = some o ∧ H a = none) → Heap.SameBut a s.heap h' → HOk X.prog X.w H h' := fun {a h'} ha hs b ob e => by
    obtain ⟨_, _, hfree⟩ := ha
    refine (I.hok b ob e).stay (fun c w' hc q => (hs.2 c ?_).trans q) (fun _ q => q) fun _ _ q => q
    rintro rfl
    rcases hc with rfl | hc
    · rw [hfree] at e; cases e
    · rw [hfree] at hc; cases hc
  rcases hx with hk | hk
  · refine wpAny_storeName_local hk hn (fun h' hn' hs => ?_) hcls
    obtain ⟨oL, _, _, hoL, _⟩ := id hn
    refine h _ ⟨I.ok, I.os, I.bare, ⟨fun b o e n hb hx => ?_, fun b o e n hb hx => ?_, I.base.free, fun b o e hx => ?_, I.base.tups, I.base.frzs, I.base.tbls⟩, ⟨_, hn', fun j y v' e1 e2 e3 => ?_⟩, fun y c e => ?_, I.free, I.freeC, fun p hp => ?_, tracked ⟨oL, hoL, I.free⟩ hs, by simpa using I.len⟩ ⟨_, hs, .inl rfl⟩
    · exact (hs.2 b (Nat.ne_of_lt (Nat.lt_of_lt_of_le (Heap.lt_size e) I.ok.above))).trans (I.base.keep b o e n hb hx)
    · obtain ⟨sl, e1⟩ := I.base.slot b o e n hb hx
      exact ⟨sl, (hs.2 b (Nat.ne_of_lt (Nat.lt_of_lt_of_le (Heap.lt_size e) I.ok.above))).trans e1⟩
    · obtain ⟨o', e1⟩ := I.base.there b o e hx
      exact ⟨o', (hs.2 b (Nat.ne_of_lt (Nat.lt_of_lt_of_le (Heap.lt_size e) I.ok.above))).trans e1⟩
    · by_cases hj : j = i
      · subst hj
        rw [hi] at e1; cases e1
        rw [List.getElem?_set_self hiσ] at e2
        cases e2
        exact ⟨u, r, .inl ⟨hk, by simp⟩⟩
      · rw [List.getElem?_set_ne (Ne.symm hj)] at e2
        obtain ⟨u', r', q⟩ := hl j y v' e1 e2 e3
        refine ⟨u', r', ?_⟩
        rcases q with ⟨k, e⟩ | ⟨k, c, e, z⟩
        · refine .inl ⟨k, ?_⟩
          have : y ≠ x := fun e => hj (nodup_ix hN e1 (e ▸ hi))
          simp [this, e]
        · exact .inr ⟨k, c, e, z.sameBut hs (cne y c e)⟩
    · obtain ⟨w', z⟩ := I.cell y c e
      exact ⟨w', z.sameBut hs (cne y c e)⟩
    · obtain ⟨e, n, ne, nf, d⟩ := I.pin p hp
      exact ⟨(hs.2 p.1 ne).trans e, n, ne, nf, d⟩
  · have hfn : X.fn x = true := by
      rcases hf with z | z
      · exact z
      · rw [z] at hk; cases hk
    obtain ⟨c, hc⟩ := I.ok.has x (.inl hk)
    obtain ⟨w', z⟩ := I.cell x c hc
    refine wpAny_storeName_cell I.ok.kind hk hc z (fun h' hc' hs => ?_)
    obtain ⟨oc, hoc, hocd⟩ := id z
    refine h { s with heap := h' } ⟨I.ok, I.os, I.bare, ⟨fun b o e n hb hx => ?_, fun b o e n hb hx => ?_, I.base.free, fun b o e hx => ?_, I.base.tups, I.base.frzs, I.base.tbls⟩, ⟨m, hn.sameBut hs (Ne.symm (cne x c hc)), fun j y v' e1 e2 e3 => ?_⟩, fun y c' e => ?_, I.free, I.freeC, fun p hp => ?_, tracked ⟨oc, hoc, I.freeC x c hc⟩ hs, by simpa using I.len⟩ ⟨c, hs, .inr hc⟩
    · exact (hs.2 b (Nat.ne_of_lt (Nat.lt_of_lt_of_le (Heap.lt_size e) (I.ok.cab x c hfn hc)))).trans (I.base.keep b o e n hb hx)
    · obtain ⟨sl, e1⟩ := I.base.slot b o e n hb hx
      exact ⟨sl, (hs.2 b (Nat.ne_of_lt (Nat.lt_of_lt_of_le (Heap.lt_size e) (I.ok.cab x c hfn hc)))).trans e1⟩
    · obtain ⟨o', e1⟩ := I.base.there b o e hx
      exact ⟨o', (hs.2 b (Nat.ne_of_lt (Nat.lt_of_lt_of_le (Heap.lt_size e) (I.ok.cab x c hfn hc)))).trans e1⟩
    · by_cases hj : j = i
      · subst hj
        rw [hi] at e1; cases e1
        rw [List.getElem?_set_self hiσ] at e2
        cases e2
        exact ⟨u, r, .inr ⟨.inl hk, c, hc, hc'⟩⟩
      · rw [List.getElem?_set_ne (Ne.symm hj)] at e2
        obtain ⟨u', r', q⟩ := hl j y v' e1 e2 e3
        refine ⟨u', r', ?_⟩
        rcases q with q | ⟨k, c', e, z'⟩
        · exact .inl q
        · refine .inr ⟨k, c', e, z'.sameBut hs ?_⟩
          rintro rfl
          exact hj (nodup_ix hN e1 (I.ok.inj _ _ _ e hc ▸ hi))
    · by_cases hcc : c' = c
      · subst hcc; exact ⟨_, hc'⟩
      · obtain ⟨w2, z2⟩ := I.cell y c' e
        exact ⟨w2, z2.sameBut hs hcc⟩
    · obtain ⟨e, n, ne, nf, d⟩ := I.pin p hp
      refine ⟨(hs.2 p.1 ?_).trans e, n, ne, nf, d⟩
      intro q
      rw [q, hoc] at e
      have q' : oc = p.2 := Option.some.inj e
      exact d w' (by rw [← q']; exact hocd)
theorem store_ok {M : Model} {A : Around} {E : Value → Shared → Prop} {i : Nat} {x : Str} {v : V} {u : Value} {Q : Unit → Shared → Prop} (I : Inv X pins σ H s) (hN : X.N.Nodup) (hi : X.N[i]? = some x) (hx : Loc X.env.scope x) (r : RelV v u)
    (h : ∀ s', Inv X pins (σ.set i (some v)) H s' → Q () s') (hf : X.fn x = true ∨ X.env.scope.names.lookup x = some .local := by first | exact .inl rfl | exact .inr rfl | assumption) : wpAny M A (storeName X.env x u) Q E s :=
  store_ok2 I hN hi hx r (fun s' I' _ => h s' I') hf
/-- behind a call or a block, the state as it is -/
theorem Inv.call' {s' : Shared} {ch : List Addr} (I : Inv X pins σ H s) (ho : s'.os = s.os) (u : Un (frs X.stack) ch H H' s.heap s'.heap) (hok : HOk X.prog X.w H' s'.heap) (hg : AllBare s'.gens)
    (hch : ∀ b ∈ ch, (b ∈ X.ex ∨ X.s₀.heap.objs.size ≤ b) ∧ b ≠ X.env.locals ∧ (∀ x c, X.env.cells.lookup x = some c → c ≠ b) ∧ ∀ p ∈ X.pn ++ pins, p.1 ≠ b) : Inv X pins σ H' s' := by
  obtain ⟨h', g', d', t', o'⟩ := s'
  have e : o' = s.os := ho
  subst e
  exact I.call (g' := g') (t' := t') (d' := d') u hok hg hch
end

/-! ### the judgements -/
/-- an exception: its class, its own dict's address (where it has one), the abstract heap behind it -/
abbrev XK := Value → Option Addr → Hp → Prop
abbrev St := List (Option V)
abbrev VK := V → Hp → Prop
/-- an expression's reading; a test's; an argument list's -/
abbrev TE := St → Hp → VK → Prop
abbrev TT := St → Hp → (Bool → Hp → Prop) → Prop
abbrev TA := St → Hp → (List V → Hp → Prop) → Prop
/-- what is wanted behind a statement -/
structure Ends where
  nx : St → Hp → Prop
  rt : VK
  bk : St → Hp → Prop := fun _ _ => False
  ct : St → Hp → Prop := fun _ _ => False
abbrev TS := Ends → St → Hp → Prop

def EP (X : Cx) (pins : List (Addr × Obj)) (σ : St) (Q : VK) (u : Value) (s' : Shared) : Prop := ∃ v H', Inv X pins σ H' s' ∧ RelV v u ∧ Q v H'
def TP (X : Cx) (pins : List (Addr × Obj)) (σ : St) (Q : Bool → Hp → Prop) (b : Bool) (s' : Shared) : Prop := ∃ H', Inv X pins σ H' s' ∧ Q b H'
def AP (X : Cx) (pins : List (Addr × Obj)) (σ : St) (Q : List V → Hp → Prop) (us : List Value) (s' : Shared) : Prop := ∃ vs H', Inv X pins σ H' s' ∧ Vals vs us ∧ Q vs H'
def SP (X : Cx) (pins : List (Addr × Obj)) (D : Ends) (f : Flow) (s' : Shared) : Prop :=
  match f with
  | .next => ∃ σ' H', Inv X pins σ' H' s' ∧ D.nx σ' H'
  | .brk => ∃ σ' H', Inv X pins σ' H' s' ∧ D.bk σ' H'
  | .cont => ∃ σ' H', Inv X pins σ' H' s' ∧ D.ct σ' H'
  | .ret u => ∃ v σ' H', Inv X pins σ' H' s' ∧ RelV v u ∧ D.rt v H'

def PE (X : Cx) (e : Expr) (t : TE) : Prop :=
  ∀ (pins : List (Addr × Obj)) (s : Shared) (σ : St) (H : Hp) (Q : VK), Inv X pins σ H s → t σ H Q → wpAny (model X.prog X.w) X.A (eval e X.env) (EP X pins σ Q) X.xe s
def PT (X : Cx) (e : Expr) (t : TT) : Prop :=
  ∀ (pins : List (Addr × Obj)) (s : Shared) (σ : St) (H : Hp) (Q : Bool → Hp → Prop), Inv X pins σ H s → t σ H Q → wpAny (model X.prog X.w) X.A (isTrue e X.env (eval e X.env)) (TP X pins σ Q) X.xe s
/-- a test whatever its 'whole' is (and, or) -/
def PW (X : Cx) (e : Expr) (t : TT) : Prop :=
  ∀ (whole : Sem Value) (pins : List (Addr × Obj)) (s : Shared) (σ : St) (H : Hp) (Q : Bool → Hp → Prop), Inv X pins σ H s → t σ H Q → wpAny (model X.prog X.w) X.A (isTrue e X.env whole) (TP X pins σ Q) X.xe s
theorem PW.pt {X : Cx} {e : Expr} {t : TT} (h : PW X e t) : PT X e t := h _
/-- an argument list (no star), from the left -/
def PA (X : Cx) (es : List Expr) (t : TA) : Prop :=
  ∀ (pos : Pos) (pins : List (Addr × Obj)) (s : Shared) (σ : St) (H : Hp) (Q : List V → Hp → Prop), Inv X pins σ H s → t σ H Q → wpAny (model X.prog X.w) X.A (spliced (backTo pos (starEach es X.env))) (AP X pins σ Q) X.xe s
def PS (X : Cx) (st : Stmt) (t : TS) : Prop :=
  ∀ (pins : List (Addr × Obj)) (s : Shared) (σ : St) (H : Hp) (D : Ends), Inv X pins σ H s → t D σ H → wpAny (model X.prog X.w) X.A (exec st X.env) (SP X pins D) X.xe s
def PSs (X : Cx) (st : List Stmt) (t : TS) : Prop :=
  ∀ (pins : List (Addr × Obj)) (s : Shared) (σ : St) (H : Hp) (D : Ends), Inv X pins σ H s → t D σ H → wpAny (model X.prog X.w) X.A (execs st X.env) (SP X pins D) X.xe s
/-- weaken the end -/
theorem thn {α : Type} {t : Sem α} {Q Q' : α → Shared → Prop} {M : Model} {A : Around} {E : Value → Shared → Prop} {s : Shared} (h : wpAny M A t Q E s) (hQ : ∀ a s, Q a s → Q' a s) : wpAny M A t Q' E s := wpAny_mono h hQ fun _ _ x => x
end L2

namespace L2
open PySem PySem.Spec PyProof.Rows
section
variable {X : Cx}

/-! ### names and constants -/
def tVar (i : Nat) : TE := fun σ H Q => ∃ v, σ[i]? = some (some v) ∧ Q v H
def tC (v : V) : TE := fun _ H Q => Q v H
theorem pe_var {i : Nat} {x : Str} {pos : Pos} (hN : X.N[i]? = some x) (hv : Vis X.env.scope x) (hd : (x == ("__debug__" : Str)) = false := by decide) (hcd : (x == ("__classdict__" : Str)) = false := by decide) : PE X (.Name x pos) (tVar i) := by
  intro pins s σ H Q I h
  obtain ⟨v, e, h⟩ := h
  obtain ⟨m, hn, hl⟩ := I.loc
  obtain ⟨u, r, l⟩ := hl i x v hN e hv
  have fin : EP X pins σ Q u s := ⟨v, H, I, r, h⟩
  rcases l with ⟨hk, hm⟩ | ⟨hk, c, hc, hcell⟩
  · exact wpAny_Name (wpAny_loadName_local I.ok.kind hk hn hm fin) hd
  · rcases hk with hk | hk
    · exact wpAny_Name (wpAny_loadName_cell I.ok.kind hk hc hcell fin) hd
    · exact wpAny_Name (wpAny_loadName_free I.ok.kind hk hc hcell fin hcd) hd
theorem pe_int {i j pos} : PE X (.Constant (.int i) j pos) (tC (.int i)) := fun _ _ _ H _ I h => wpAny_Constant_int ⟨.int i, H, I.tok _, ⟨_, rfl⟩, h⟩
theorem pe_bl {b j pos} : PE X (.Constant (.bool b) j pos) (tC (.bl b)) := fun _ _ _ H _ I h => Constant_bool ⟨.bl b, H, I, rfl, h⟩
/-- a global name of the def -/
def Gl (X : Cx) (x : Str) : Prop := X.env.kindOf x = some .globalImplicit
theorem ld_glob {E : Value → Shared → Prop} {pins : List (Addr × Obj)} {s : Shared} {σ : St} {H : Hp} {x : Str} {u : Value} {pos : Pos} {Q : Value → Shared → Prop} (I : Inv X pins σ H s) (hg : Gl X x) (hm : X.mg x = some u) (h : Q u s)
    (hd : (x == ("__debug__" : Str)) = false := by decide) : wpAny (model X.prog X.w) X.A (eval (.Name x pos) X.env) Q E s :=
  Calls.Name_function_global I.ok.kind hg (Calls.loadGlobal_global (by rw [I.ok.glob]; exact I.mod.glob.keeps I.bk) hm h) hd
theorem ld_blt {E : Value → Shared → Prop} {pins : List (Addr × Obj)} {s : Shared} {σ : St} {H : Hp} {x : Str} {u : Value} {pos : Pos} {Q : Value → Shared → Prop} (I : Inv X pins σ H s) (hg : Gl X x) (hm : X.mg x = none) (hv : bootBuiltins x = some u) (h : Q u s)
    (hn : x ≠ "__name__" := by decide) (hd : (x == ("__debug__" : Str)) = false := by decide) : wpAny (model X.prog X.w) X.A (eval (.Name x pos) X.env) Q E s := by
  obtain ⟨mb, h1, h2⟩ := I.mod.blt
  exact Calls.Name_function_global I.ok.kind hg (Calls.loadGlobal_builtin (by rw [I.ok.glob]; exact I.mod.glob.keeps I.bk) hm (by rw [I.ok.blt]; exact h1.keeps I.bk) ((h2 x hn).trans hv) h) hd
theorem pe_bltn {x : Str} {v : V} {u : Value} {pos : Pos} (hg : Gl X x) (hm : X.mg x = none) (hv : bootBuiltins x = some u) (r : RelV v u) (hn : x ≠ "__name__" := by decide) (hd : (x == ("__debug__" : Str)) = false := by decide) : PE X (.Name x pos) (tC v) :=
  fun _ _ _ H _ I h => ld_blt I hg hm hv ⟨v, H, I, r, h⟩ hn hd

/-! ### arithmetic -/
variable {a b : Expr} {ta tb : TE} {pos : Pos}
/-! ### comparisons -/
/-! ### and, or, not -/
variable {tA tB' : TT} {rest : List Expr}
def tOr (t u : TT) : TT := fun σ H Q => t σ H fun c H1 => if c = true then Q true H1 else u σ H1 Q
def tNot (t : TT) : TT := fun σ H Q => t σ H fun c H1 => Q (!c) H1
theorem pw_or1 (ha : PT X a tA) : PW X (.BoolOp .Or [a] pos) tA := by
  intro wh pins s σ H Q I h
  refine isTrue_or (thn (ha pins s σ H Q I h) fun c s1 e => ?_)
  cases c with
  | false => exact isTrue_or_nil e
  | true => exact e
theorem pw_or (ha : PT X a tA) (hb : PW X (.BoolOp .Or (b :: rest) pos) tB') : PW X (.BoolOp .Or (a :: b :: rest) pos) (tOr tA tB') := by
  intro wh pins s σ H Q I h
  refine isTrue_or (thn (ha pins s σ H _ I h) fun c s1 ⟨H1, I1, q1⟩ => ?_)
  cases c with
  | true => exact ⟨H1, I1, q1⟩
  | false => exact hb wh pins s1 σ H1 Q I1 q1
theorem pt_not (ha : PT X a tA) : PT X (.UnaryOp .Not a pos) (tNot tA) := by
  intro pins s σ H Q I h
  exact isTrue_not (ha pins s σ H (fun c H1 => Q (!c) H1) I h)
/-- .. as values (bools) -/
def tAndV (ta tb : TE) : TE := fun σ H Q => ta σ H fun x H1 => ∃ c, x = .bl c ∧ if c = true then tb σ H1 Q else Q (.bl false) H1
theorem pe_one {op} {t : TE} (h : PE X a t) : PE X (.BoolOp op [a] pos) t := fun pins s σ H Q I hw => BoolOp_one (h pins s σ H Q I hw)
theorem pe_and (ha : PE X a ta) (hb : PE X (.BoolOp .And (b :: rest) pos) tb) : PE X (.BoolOp .And (a :: b :: rest) pos) (tAndV ta tb) := by
  intro pins s σ H Q I h
  refine BoolOp_and (thn (ha pins s σ H _ I h) fun v s1 ⟨x, H1, I1, r1, q1⟩ => ?_)
  obtain ⟨c, rfl, q1⟩ := q1
  cases r1
  refine wpAny_truthy_bool ?_
  cases c with
  | true => exact hb pins s1 σ H1 Q I1 q1
  | false => exact ⟨.bl false, H1, I1, rfl, q1⟩
/-- a if t else b -/
def tIf (t : TT) (ta tb : TE) : TE := fun σ H Q => t σ H fun c H1 => if c = true then ta σ H1 Q else tb σ H1 Q
theorem pe_ifExp {c : Expr} (hc : PT X c tA) (ha : PE X a ta) (hb : PE X b tb) : PE X (.IfExp c a b pos) (tIf tA ta tb) := by
  intro pins s σ H Q I h
  refine wpAny_IfExp (thn (hc pins s σ H _ I h) fun d s1 ⟨H1, I1, q1⟩ => ?_)
  cases d with
  | true => exact ha pins s1 σ H1 Q I1 q1
  | false => exact hb pins s1 σ H1 Q I1 q1
end
end L2

namespace L2
open PySem PySem.Spec PyProof.Rows

/-! ### a list, a tuple that is read: tracked, frozen, or an object of the module -/
def SqL (K : PySem.W.Frag) (H : Hp) (a : Addr) (xs : List V) : Prop :=
  Rd H a (.lst xs) ∨
    ∃ (o : Obj) (its : Array Value) (n : Nat), K.lookup a = some o ∧ o.cls = .type "list" ∧ o.dict = none ∧ o.data = .seq its n ∧ its.size ≤ sizeLine ∧ Vals xs its.toList
def SqT (K : PySem.W.Frag) (H : Hp) (a : Addr) (xs : List V) : Prop :=
  Rd H a (.tup xs) ∨
    ∃ (o : Obj) (its : Array Value) (n : Nat), K.lookup a = some o ∧ o.cls = .type "tuple" ∧ o.data = .seq its n ∧ its.size ≤ sizeLine ∧ Vals xs its.toList
def absV : Value → Option V
  | .none => some .non
  | .bool b => some (.bl b)
  | .int i _ => some (.int i)
  | .str x _ => some (.str x)
  | .bytes b _ => some (.byt b)
  | .float b _ => some (.flt b)
  | .ref a => some (.ref a)
  | .type n => some (.ty n)
  | _ => none
theorem RelV.abs {x : V} {u : Value} (r : RelV x u) : absV u = some x := by
  cases x with
  | non => cases r; rfl
  | bl _ => cases r; rfl
  | int _ => obtain ⟨t, rfl⟩ := r; rfl
  | str _ => obtain ⟨t, rfl⟩ := r; rfl
  | byt _ => obtain ⟨t, rfl⟩ := r; rfl
  | flt _ => obtain ⟨t, rfl⟩ := r; rfl
  | ref _ => cases r; rfl
  | ty _ => cases r; rfl
theorem RelV.inj {x y : V} {u : Value} (r : RelV x u) (q : RelV y u) : x = y := Option.some.inj (r.abs.symm.trans q.abs)
theorem Vals.inj : ∀ {xs ys : List V} {us : List Value}, Vals xs us → Vals ys us → xs = ys
  | _, _, _, .nil, .nil => rfl
  | _, _, _, .cons r t, .cons r' t' => by rw [r.inj r', Vals.inj t t']
section
variable {X : Cx} {pins : List (Addr × Obj)} {σ : St} {H : Hp} {s : Shared} {a : Addr} {xs ys : List V}
theorem SqL.of {K : PySem.W.Frag} (h : H a = some (.lst xs)) : SqL K H a xs := .inl (.inl h)
theorem SqT.of {K : PySem.W.Frag} (h : H a = some (.tup xs)) : SqT K H a xs := .inl (.inl h)
theorem Inv.list (I : Inv X pins σ H s) (h : SqL X.K H a xs) : ∃ its : List Value, Vals xs its ∧ PlainL s.heap a its.toArray ∧ xs.length ≤ sizeLine := by
  rcases h with h | ⟨o, its, n, hk, hc, hd, hs, hz, r⟩
  · obtain ⟨z, its, n, r, e⟩ := h.ok I.hok
    exact ⟨its, r, ⟨_, n, e, rfl, rfl, rfl⟩, z⟩
  · refine ⟨its.toList, r, ⟨o, n, I.kIn a o hk, hc, hd, by simpa using hs⟩, ?_⟩
    have e := r.length
    simp only [Array.length_toList] at e
    omega
theorem Inv.tuple (I : Inv X pins σ H s) (h : SqT X.K H a xs) : ∃ its : List Value, Vals xs its ∧ IsTup s.heap a its.toArray ∧ xs.length ≤ sizeLine := by
  rcases h with h | ⟨o, its, n, hk, hc, hs, hz, r⟩
  · obtain ⟨z, its, r, p⟩ := h.ok I.hok
    exact ⟨its, r, p, z⟩
  · refine ⟨its.toList, r, ⟨o, I.kIn a o hk, hc, n, by simpa using hs⟩, ?_⟩
    have e := r.length
    simp only [Array.length_toList] at e
    omega
theorem Inv.list_inj (I : Inv X pins σ H s) (h : SqL X.K H a xs) (h' : SqL X.K H a ys) : xs = ys := by
  obtain ⟨its, r, ⟨o, n, e, _, _, d⟩, _⟩ := I.list h
  obtain ⟨its', r', ⟨o', n', e', _, _, d'⟩, _⟩ := I.list h'
  rw [e] at e'; cases e'
  rw [d] at d'
  injection d' with d1 _
  have : its = its' := by simpa using congrArg Array.toList d1
  subst this
  exact r.inj r'
theorem Inv.tuple_inj (I : Inv X pins σ H s) (h : SqT X.K H a xs) (h' : SqT X.K H a ys) : xs = ys := by
  obtain ⟨its, r, ⟨o, e, _, n, d⟩, _⟩ := I.tuple h
  obtain ⟨its', r', ⟨o', e', _, n', d'⟩, _⟩ := I.tuple h'
  rw [e] at e'; cases e'
  rw [d] at d'
  injection d' with d1 _
  have : its = its' := by simpa using congrArg Array.toList d1
  subst this
  exact r.inj r'
end

/-! ### another wish about exceptions -/
abbrev Cx.wish (X : Cx) (E : Value → Shared → Prop) : Cx := { X with xe := E }
/-- no exception leaves -/
abbrev Cx.nox (X : Cx) : Cx := X.wish fun _ _ => False
theorem Cx.Ok.wish {X : Cx} (ok : X.Ok) (E : Value → Shared → Prop) : (X.wish E).Ok :=
  ⟨ok.mod, ok.kind, ok.glob, ok.blt, ok.above, ok.inj, ok.has, ok.cab, ok.hd, ok.frames, ok.stk, ok.exf, ok.bs, ok.bsz, ok.noex, ok.exfs, ok.funs, ok.frf⟩
theorem Cx.Ok.unwish {X : Cx} {E : Value → Shared → Prop} (ok : (X.wish E).Ok) : X.Ok :=
  ⟨ok.mod, ok.kind, ok.glob, ok.blt, ok.above, ok.inj, ok.has, ok.cab, ok.hd, ok.frames, ok.stk, ok.exf, ok.bs, ok.bsz, ok.noex, ok.exfs, ok.funs, ok.frf⟩
section
variable {X : Cx} {pins : List (Addr × Obj)} {σ : St} {H : Hp} {s : Shared} {E : Value → Shared → Prop}
theorem Inv.wish (I : Inv X pins σ H s) (E : Value → Shared → Prop) : Inv (X.wish E) pins σ H s := ⟨I.ok.wish E, I.os, I.bare, I.base, I.loc, I.cell, I.free, I.freeC, I.pin, I.hok, I.len⟩
theorem Inv.unwish (I : Inv (X.wish E) pins σ H s) : Inv X pins σ H s := ⟨I.ok.unwish, I.os, I.bare, I.base, I.loc, I.cell, I.free, I.freeC, I.pin, I.hok, I.len⟩
theorem SP.unwish {D : Ends} {f : Flow} {s' : Shared} (h : SP (X.wish E) pins D f s') : SP X pins D f s' := by
  cases f with
  | next => obtain ⟨σ', H', I, q⟩ := h; exact ⟨σ', H', I.unwish, q⟩
  | brk => obtain ⟨σ', H', I, q⟩ := h; exact ⟨σ', H', I.unwish, q⟩
  | cont => obtain ⟨σ', H', I, q⟩ := h; exact ⟨σ', H', I.unwish, q⟩
  | ret u => obtain ⟨v, σ', H', I, r, q⟩ := h; exact ⟨v, σ', H', I.unwish, r, q⟩
theorem PE.nox {e : Expr} {t : TE} (h : PE X.nox e t) : PE X e t := fun pins s σ H Q I hw =>
  wpAny_mono (h pins s σ H Q (I.wish _) hw) (fun _ _ ⟨v, H', I', r, q⟩ => ⟨v, H', I'.unwish, r, q⟩) fun _ _ z => False.elim z
theorem PT.nox {e : Expr} {t : TT} (h : PT X.nox e t) : PT X e t := fun pins s σ H Q I hw =>
  wpAny_mono (h pins s σ H Q (I.wish _) hw) (fun _ _ ⟨H', I', q⟩ => ⟨H', I'.unwish, q⟩) fun _ _ z => False.elim z
theorem PSs.nox {st : List Stmt} {t : TS} (h : PSs X.nox st t) : PSs X st t := fun pins s σ H D I hw =>
  wpAny_mono (h pins s σ H D (I.wish _) hw) (fun _ _ q => q.unwish) fun _ _ z => False.elim z
end

/-! ### blocks and small statements -/
section
variable {X : Cx} {st : Stmt} {rest : List Stmt} {t u : TS} {e : Expr} {te : TE} {pos : Pos}
def tNext : TS := fun D σ H => D.nx σ H
def tSeq (t u : TS) : TS := fun D σ H => t { D with nx := u D } σ H
theorem pss_nil : PSs X [] tNext := fun _ _ σ H _ I h => wpAny_execs_nil ⟨σ, H, I, h⟩
theorem pss_cons (h1 : PS X st t) (h2 : PSs X rest u) : PSs X (st :: rest) (tSeq t u) := by
  intro pins s σ H D I h
  refine wpAny_execs_cons (thn (h1 pins s σ H { D with nx := u D } I h) fun f s1 q => ?_)
  cases f with
  | next =>
    obtain ⟨σ', H', I', q⟩ := q
    exact h2 pins s1 σ' H' D I' q
  | ret v => exact q
  | brk => exact q
  | cont => exact q
theorem pss_one (h1 : PS X st t) : PSs X [st] t := by
  intro pins s σ H D I h
  refine wpAny_execs_cons (thn (h1 pins s σ H D I h) fun f s1 q => ?_)
  cases f with
  | next => exact wpAny_execs_nil q
  | ret v => exact q
  | brk => exact q
  | cont => exact q
/-- in a def's body nothing is shown -/
theorem Inv.quiet {pins : List (Addr × Obj)} {σ : St} {H : Hp} {s : Shared} (I : Inv X pins σ H s) : interactive X.env = false := by simp [interactive, I.ok.kind]
/-- an expression whose value is dropped -/
def tDrop (te : TE) : TS := fun D σ H => te σ H fun _ H1 => D.nx σ H1
theorem ps_expr (he : PE X e te) (hs : swapsWith e none pos.line X.env = pure false := by rfl) : PS X (.Expr e pos) (tDrop te) := by
  intro pins s σ H D I h
  exact wpAny_Expr_any (thn (he pins s σ H _ I h) fun v s1 ⟨x, H1, I1, r1, q1⟩ => ⟨σ, H1, I1, q1⟩) I.quiet hs
def tRet (te : TE) : TS := fun D σ H => te σ H D.rt
theorem ps_ret (he : PE X e te) : PS X (.Return (some e) pos) (tRet te) := by
  intro pins s σ H D I h
  exact wpAny_Return_some (thn (he pins s σ H _ I h) fun v s1 ⟨x, H1, I1, r1, q1⟩ => ⟨x, σ, H1, I1, r1, q1⟩)
def tIfS (c : TT) (t u : TS) : TS := fun D σ H => c σ H fun b H1 => if b = true then t D σ H1 else u D σ H1
theorem ps_if {c : Expr} {a b : List Stmt} {tc : TT} (hc : PT X c tc) (ha : PSs X a t) (hb : PSs X b u) : PS X (.If c a b pos) (tIfS tc t u) := by
  intro pins s σ H D I h
  refine wpAny_If (thn (hc pins s σ H _ I h) fun d s1 ⟨H1, I1, q1⟩ => ?_)
  cases d with
  | true => exact ha pins s1 σ H1 D I1 q1
  | false => exact hb pins s1 σ H1 D I1 q1
end

/-! ### targets -/
abbrev TG := V → St → Hp → (St → Hp → Prop) → Prop
abbrev TGs := List V → St → Hp → (St → Hp → Prop) → Prop
def PG (X : Cx) (target : Expr) (t : TG) : Prop :=
  ∀ (pins : List (Addr × Obj)) (s : Shared) (σ : St) (H : Hp) (v : V) (u : Value) (Q : St → Hp → Prop), Inv X pins σ H s → RelV v u → t v σ H Q →
    wpAny (model X.prog X.w) X.A (assign target X.env u) (fun _ s' => ∃ σ' H', Inv X pins σ' H' s' ∧ Q σ' H') X.xe s
/-- several targets, one after another -/
def PGs (X : Cx) (ts : List Expr) (t : TGs) : Prop :=
  ∀ (pins : List (Addr × Obj)) (s : Shared) (σ : St) (H : Hp) (vs : List V) (us : List Value) (Q : St → Hp → Prop), Inv X pins σ H s → Vals vs us → t vs σ H Q →
    wpAny (model X.prog X.w) X.A (assignInOrder ((assignEach ts X.env).map (·.2)) us) (fun _ s' => ∃ σ' H', Inv X pins σ' H' s' ∧ Q σ' H') X.xe s
/-- o[i] = v, by values -/
abbrev TSet := V → V → V → Hp → (Hp → Prop) → Prop
def PSet (X : Cx) (t : TSet) : Prop :=
  ∀ (pins : List (Addr × Obj)) (s : Shared) (σ : St) (H : Hp) (o i v : V) (ov iv u : Value) (Q : Hp → Prop), Inv X pins σ H s → RelV o ov → RelV i iv → RelV v u → t o i v H Q →
    wpAny (model X.prog X.w) X.A (setItem ov iv u) (fun _ s' => ∃ H', Inv X pins σ H' s' ∧ Q H') X.xe s
/-- a op= b, by values -/
abbrev TIp := V → V → Hp → VK → Prop
def PIp (X : Cx) (op : Operator) (t : TIp) : Prop :=
  ∀ (pins : List (Addr × Obj)) (s : Shared) (σ : St) (H : Hp) (x y : V) (v u : Value) (Q : VK), Inv X pins σ H s → RelV x v → RelV y u → t x y H Q →
    wpAny (model X.prog X.w) X.A (inplaceOp op v u) (EP X pins σ Q) X.xe s
section
variable {X : Cx} {pos : Pos}
def gName (i : Nat) : TG := fun v σ H Q => Q (σ.set i (some v)) H
theorem pg_name {i : Nat} {x : Str} (hN : X.N.Nodup) (hi : X.N[i]? = some x) (hx : Loc X.env.scope x) (hf : X.fn x = true ∨ X.env.scope.names.lookup x = some .local := by first | exact .inl rfl | exact .inr rfl | assumption) : PG X (.Name x pos) (gName i) := by
  intro pins s σ H v u Q I r h
  exact wpAny_assign_Name (store_ok I hN hi hx r (fun s' I' => ⟨_, H, I', h⟩) hf)
def gNil : TGs := fun vs σ H Q => vs = [] ∧ Q σ H
def gCons (t : TG) (u : TGs) : TGs := fun vs σ H Q => ∃ v r, vs = v :: r ∧ t v σ H fun σ' H' => u r σ' H' Q
theorem pgs_nil : PGs X [] gNil := by
  intro pins s σ H vs us Q I r h
  obtain ⟨e, h⟩ := h
  subst e
  cases r
  exact assignInOrder_nil ⟨σ, H, I, h⟩
theorem pgs_cons {e : Expr} {es : List Expr} {t : TG} {u : TGs} (h1 : PG X e t) (h2 : PGs X es u)
    (hs : (assignEach (e :: es) X.env).map (·.2) = assign e X.env :: (assignEach es X.env).map (·.2) := by rfl) : PGs X (e :: es) (gCons t u) := by
  intro pins s σ H vs us Q I r h
  obtain ⟨v, vr, e1, h⟩ := h
  subst e1
  cases r with
  | cons r rr =>
    rw [hs]
    refine assignInOrder_cons (thn (h1 pins s σ H _ _ _ I r h) fun _ s1 ⟨σ1, H1, I1, q1⟩ => ?_)
    exact h2 pins s1 σ1 H1 _ _ Q I1 rr q1
/-- (a, b, ..) = a tuple of that length -/
def gTup (K : PySem.W.Frag) (n : Nat) (t : TGs) : TG := fun v σ H Q => ∃ a xs, v = .ref a ∧ SqT K H a xs ∧ xs.length = n ∧ t xs σ H Q
theorem pg_tup {es : List Expr} {k : Nat} {t : TGs} {n : Nat} (hc : X.calm = true) (h : PGs X es t)
    (hn : (assignEach es X.env).length = n := by rfl) (hst : (assignEach es X.env).findIdx? (·.1) = none := by rfl) : PG X (.Tuple es k pos) (gTup X.K n t) := by
  intro pins s σ H v u Q I r hw
  obtain ⟨a, xs, e1, hq, hl, hw⟩ := hw
  subst e1
  cases r
  obtain ⟨its, rv, ht, hz⟩ := I.tuple hq
  refine assign_Tuple_tuple (I.ok.hd hc) ht (by simp [hn, ← hl, rv.length]) hst fun h' hx => ?_
  have I1 : Inv X pins σ H { s with heap := h' } := I.kept (t' := s.toks) fun b o e => hx b o (Nat.ne_of_lt (Heap.lt_size e)) e
  exact h pins _ σ H xs _ Q I1 (by simpa using rv) hw
/-- o[i] = .. -/
def gSub (to ti : TE) (t : TSet) : TG := fun v σ H Q => to σ H fun o H1 => ti σ H1 fun i H2 => t o i v H2 fun H3 => Q σ H3
theorem pg_sub {o i : Expr} {to ti : TE} {t : TSet} (ho : PE X o to) (hi : PE X i ti) (hs : PSet X t)
    (ha : ∀ v, assign (.Subscript o i pos) X.env v = (do
      let ov ← holding [v] (eval o X.env)
      let iv ← holding [v, ov] (eval i X.env)
      standAt pos
      holding [v, ov, iv] (setItem ov iv v)
      release [v, ov, iv] []) := by intro _; rfl) : PG X (.Subscript o i pos) (gSub to ti t) := by
  intro pins s σ H v u Q I r h
  rw [ha]
  refine wpAny_bind (wpAny_holding (thn (ho pins s σ H _ I h) fun ov s1 ⟨x, H1, I1, r1, q1⟩ => ?_))
  refine wpAny_bind (wpAny_holding (thn (hi pins s1 σ H1 _ I1 q1) fun iv s2 ⟨y, H2, I2, r2, q2⟩ => ?_))
  refine wpAny_bind (wpAny_standAt (wpAny_bind (wpAny_holding (thn (hs pins s2 σ H2 x y v ov iv u _ I2 r1 r2 r q2) fun _ s3 ⟨H3, I3, q3⟩ => ?_))))
  exact wpAny_release ⟨σ, H3, I3, q3⟩
/-- target = value -/
def tAsg (te : TE) (g : TG) : TS := fun D σ H => te σ H fun x H1 => g x σ H1 D.nx
theorem ps_asg {tg e : Expr} {te : TE} {g : TG} (he : PE X e te) (hg : PG X tg g) (hs : swapsWithSole [tg] e pos.line X.env = pure false := by rfl) (hw : swappedStores [tg] e X.env = pure none := by rfl)
    (h1 : (assignEach [tg] X.env).map (·.2) = [assign tg X.env] := by rfl) : PS X (.Assign [tg] e pos) (tAsg te g) := by
  intro pins s σ H D I h
  refine wpAny_Assign_stores (thn (he pins s σ H _ I h) fun v s1 ⟨x, H1, I1, r1, q1⟩ => ?_) hs hw
  rw [h1]
  exact thn (hg pins s1 σ H1 x v _ I1 r1 q1) fun _ s2 q => q
/-- name = value -/
theorem ps_set {i : Nat} {x : Str} {e : Expr} {te : TE} {pos' : Pos} (hN : X.N.Nodup) (hi : X.N[i]? = some x) (hx : Loc X.env.scope x) (he : PE X e te) (hs : swapsWith e (some (.Name x pos')) pos.line X.env = pure false := by rfl) (hf : X.fn x = true ∨ X.env.scope.names.lookup x = some .local := by first | exact .inl rfl | exact .inr rfl | assumption) :
    PS X (.Assign [.Name x pos'] e pos) (tAsg te (gName i)) := by
  intro pins s σ H D I h
  refine wpAny_Assign_Name (thn (he pins s σ H _ I h) fun v s1 ⟨y, H1, I1, r1, q1⟩ => ?_) hs
  exact store_ok I1 hN hi hx r1 (fun s2 I2 => ⟨_, H1, I2, q1⟩) hf
/-- name op= e -/
def tAug (i : Nat) (te : TE) (ti : TIp) : TS := fun D σ H => ∃ x, σ[i]? = some (some x) ∧ te σ H fun y H1 => ti x y H1 fun z H2 => D.nx (σ.set i (some z)) H2
theorem ps_aug {i : Nat} {x : Str} {e : Expr} {te : TE} {op : Operator} {ti : TIp} {pos' : Pos} (hN : X.N.Nodup) (hi : X.N[i]? = some x) (hx : Loc X.env.scope x) (he : PE X e te) (ho : PIp X op ti) (hf : X.fn x = true ∨ X.env.scope.names.lookup x = some .local := by first | exact .inl rfl | exact .inr rfl | assumption) :
    PS X (.AugAssign (.Name x pos') op e pos) (tAug i te ti) := by
  intro pins s σ H D I h
  obtain ⟨v, e1, h⟩ := h
  obtain ⟨m, hn, hl⟩ := I.loc
  have vis : Vis X.env.scope x := by rcases hx with k | k; exact .inl k; exact .inr (.inl k)
  obtain ⟨u, r, l⟩ := hl i x v hi e1 vis
  refine wpAny_AugAssign_Name ?_
  have go : wpAny (model X.prog X.w) X.A (eval e X.env) (fun w s₂ => wpAny (model X.prog X.w) X.A (inplaceOp op u w) (fun r s₃ => wpAny (model X.prog X.w) X.A (storeName X.env x r) (fun _ => SP X pins D .next) X.xe s₃) X.xe s₂) X.xe s := by
    refine thn (he pins s σ H _ I h) fun w s1 ⟨y, H1, I1, r1, q1⟩ => ?_
    refine thn (ho pins s1 σ H1 v y u w _ I1 r r1 q1) fun z s2 ⟨zv, H2, I2, r2, q2⟩ => ?_
    exact store_ok I2 hN hi hx r2 (fun s3 I3 => ⟨_, H2, I3, q2⟩) hf
  rcases l with ⟨hk, hm⟩ | ⟨hk, c, hc, hcell⟩
  · exact wpAny_loadName_local I.ok.kind hk hn hm go
  · rcases hk with hk | hk
    · exact wpAny_loadName_cell I.ok.kind hk hc hcell go
    · rcases hx with k | k
      · have : X.env.scope.names.lookup x = some .free := hk
        rw [k] at this; cases this
      · have : X.env.scope.names.lookup x = some .free := hk
        rw [k] at this; cases this
/-- ints -/
def ipI (f : Int → Int → Int) : TIp := fun x y H Q => ∃ i j, x = .int i ∧ y = .int j ∧ Q (.int (f i j)) H
theorem ip_add : PIp X .Add (ipI fun i j => i + j) := by
  intro pins s σ H x y v u Q I r1 r2 h
  obtain ⟨i, j, e1, e2, q⟩ := h
  subst e1; subst e2
  obtain ⟨t, rfl⟩ := r1
  obtain ⟨t', rfl⟩ := r2
  exact iadd_int ⟨.int _, H, I.tok _, ⟨_, rfl⟩, q⟩
end

/-! ### while -/
section
variable {X : Cx} {pos : Pos}
/-- the invariant W with its measure -/
def tWhile (c : TT) (tb : TS) : TS := fun D σ H => ∃ W : Nat → St → Hp → Prop, (∃ m, W m σ H) ∧ ∀ m σ H, W m σ H →
  c σ H fun b H1 => if b = true then ∃ N : St → Hp → Prop, (∀ σ' H', N σ' H' → ∃ m', m' < m ∧ W m' σ' H') ∧ tb { D with nx := N, ct := N, bk := D.nx } σ H1 else D.nx σ H1
theorem ps_while {c : Expr} {body : List Stmt} {tc : TT} {tb : TS} (hp : PassesOwn (model X.prog X.w) X.A X.env X.xe) (hc : PT X c tc) (hb : PSs X body tb) : PS X (.While c body [] pos) (tWhile tc tb) := by
  intro pins s σ H D I h
  obtain ⟨W, ⟨m0, w0⟩, turn⟩ := h
  refine wpAny_While (codeAny_whileLoop (fun n s' => ∃ σ' H', Inv X pins σ' H' s' ∧ W n σ' H') ?_ m0 ⟨σ, H, I, w0⟩)
  rintro n s1 ⟨σ1, H1, I1, w1⟩
  refine wpAny_passesOwn hp (thn (hc pins s1 σ1 H1 _ I1 (turn n σ1 H1 w1)) fun b s2 ⟨H2, I2, q2⟩ => ?_)
  cases b with
  | true =>
    obtain ⟨N, hN, q2⟩ := q2
    rw [if_pos rfl]
    refine wpAny_passesOwn hp (thn (hb pins s2 σ1 H2 _ I2 q2) fun f s3 q3 => ?_)
    cases f with
    | next =>
      obtain ⟨σ3, H3, I3, n3⟩ := q3
      obtain ⟨m', hm, w3⟩ := hN σ3 H3 n3
      exact ⟨m', hm, σ3, H3, I3, w3⟩
    | cont =>
      obtain ⟨σ3, H3, I3, n3⟩ := q3
      obtain ⟨m', hm, w3⟩ := hN σ3 H3 n3
      exact ⟨m', hm, σ3, H3, I3, w3⟩
    | brk => exact q3
    | ret v => exact q3
  | false =>
    rw [if_neg Bool.false_ne_true]
    exact wpAny_execs_nil ⟨σ1, H2, I2, q2⟩
end

/-! ### what a loop or a comprehension walks -/
/-- at turn i: it yields x (the heap may grow), or it stops -/
structure It where
  go : Nat → Hp → Prop
  yld : Nat → Hp → V → Hp → Prop
  stop : Nat → Hp → Prop
/-- the iterator's own objects may turn: they are not the frame's, not pinned, younger than the entry (or a comprehension's own) -/
def FpOk (X : Cx) (pins : List (Addr × Obj)) (H : Hp) (b : Addr) : Prop :=
  H b = none ∧ b ≠ X.env.locals ∧ b ∉ X.fs ∧ (b ∈ X.ex ∨ X.s₀.heap.objs.size ≤ b) ∧ (∀ x c, X.env.cells.lookup x = some c → c ≠ b) ∧ ∀ p ∈ X.pn ++ pins, p.1 ≠ b
theorem Inv.fpOk {X : Cx} {pins : List (Addr × Obj)} {σ : St} {H H' : Hp} {s : Shared} {b : Addr} (I : Inv X pins σ H s) (hb : s.heap.objs.size ≤ b) (hn : H' b = none) : FpOk X pins H' b := by
  refine ⟨hn, Nat.ne_of_gt (Nat.lt_of_lt_of_le I.lt hb), I.nofs hb, .inr (Nat.le_trans I.sz hb), fun x c e z => ?_, fun p hp z => ?_⟩
  · obtain ⟨v, q⟩ := I.cell x c e
    exact absurd (Nat.lt_of_lt_of_le q.lt (by rw [z]; exact hb)) (Nat.lt_irrefl _)
  · exact absurd (Nat.lt_of_lt_of_le (Heap.lt_size (I.pin p hp).1) (by rw [z]; exact hb)) (Nat.lt_irrefl _)
structure Turn (P : Program) (w : World) (K : PySem.W.Frag) (tg : Expr) (J : It) (fp : List Addr) (it : Addr) (tn : Nat → Heap → Prop) : Prop where
  mem : it ∈ fp
  obj : ∀ i h, tn i h → ∀ b ∈ fp, ∃ o, h.get? b = some o ∧ ∀ v, o.data ≠ .cell v
  keep : ∀ i h h', tn i h → (∀ b ∈ fp, ∀ o, h.get? b = some o → h'.get? b = some o) → tn i h'
  item : ∀ (X : Cx), X.prog = P → X.w = w → X.K = K → X.calm = true → ∀ (i : Nat) (pins : List (Addr × Obj)) (s : Shared) (σ : St) (H : Hp) (E : Value → Shared → Prop), Inv X pins σ H s → (∀ b ∈ fp, FpOk X pins H b) → tn i s.heap → J.go i H →
    wpAny (model P w) X.A (pyNext (.ref it)) (fun r s1 => ∃ u, r = some u ∧
      wpAny (model P w) X.A (letOwnedTupleGo tg (.ref it) u) (fun _ s2 => ∃ x H', Inv X pins σ H' s2 ∧ RelV x u ∧ J.yld i H x H' ∧ tn (i + 1) s2.heap ∧ ∀ b ∈ fp, H' b = none) E s1) E s
  done : ∀ (X : Cx), X.prog = P → X.w = w → X.K = K → X.calm = true → ∀ (i : Nat) (pins : List (Addr × Obj)) (s : Shared) (σ : St) (H : Hp) (E : Value → Shared → Prop), Inv X pins σ H s → (∀ b ∈ fp, FpOk X pins H b) → tn i s.heap → J.stop i H →
    wpAny (model P w) X.A (pyNext (.ref it)) (fun r s1 => r = none ∧ Inv X pins σ H s1) E s
  self : ∀ (A : Around) (i : Nat) (s : Shared) (Q : Value → Shared → Prop) (E : Value → Shared → Prop), tn i s.heap → Q (.ref it) s → wpAny (model P w) A (pyIter (.ref it)) Q E s
abbrev TI := St → Hp → (It → Hp → Prop) → Prop
/-- an iterator has come -/
def PIE (X : Cx) (pins : List (Addr × Obj)) (σ : St) (tg : Expr) (R : It → Hp → Prop) (itv : Value) (s2 : Shared) : Prop :=
  ∃ (it : Addr) (fp : List Addr) (tn : Nat → Heap → Prop) (J : It) (H' : Hp), itv = .ref it ∧ Inv X pins σ H' s2 ∧ Turn X.prog X.w X.K tg J fp it tn ∧ tn 0 s2.heap ∧ (∀ b ∈ fp, FpOk X pins H' b) ∧ R J H'
def PI (X : Cx) (tg iter : Expr) (wi : TI) : Prop :=
  ∀ (pins : List (Addr × Obj)) (s : Shared) (σ : St) (H : Hp) (R : It → Hp → Prop), Inv X pins σ H s → wi σ H R →
    wpAny (model X.prog X.w) X.A (eval iter X.env) (fun v s1 => wpAny (model X.prog X.w) X.A (pyIter v) (PIE X pins σ tg R) X.xe s1) X.xe s

/-- the step ahead of the store is nothing for an iterator that keeps no tuple -/
theorem go_of {M : Model} {A : Around} {E : Value → Shared → Prop} {s : Shared} {tg : Expr} {it : Addr} {u : Value} {o : Obj} {n : String} {vs : Array Value} {Q : Unit → Shared → Prop} (ho : s.heap.get? it = some o) (hc : o.cls = .type n) (hd : o.data = .fields vs)
    (hn : ["enumerate", "zip", "dict_itemiterator", "dict_reverseitemiterator", "odict_iterator", "itertools.zip_longest", "itertools.pairwise"].contains n = false) (hQ : Q () s) : wpAny M A (letOwnedTupleGo tg (.ref it) u) Q E s := by
  unfold letOwnedTupleGo
  cases tg <;> first
    | exact wpAny_pure hQ
    | (cases u <;> first
        | exact wpAny_pure hQ
        | (refine wpAny_bind (wpAny_load ho ?_)
           rw [hc, hd]
           show wpAny M A (if (["enumerate", "zip", "dict_itemiterator", "dict_reverseitemiterator", "odict_iterator", "itertools.zip_longest", "itertools.pairwise"].contains n && vs[0]? == some (rawInt _)) = true then _ else _) Q E s
           rw [if_neg (by intro h; rw [hn, Bool.false_and] at h; cases h)]
           exact wpAny_pure hQ))

/-- the list at a, as it stands at each turn (a loop may append to it) -/
def Itl (K : PySem.W.Frag) (a : Addr) : It :=
  ⟨fun i H => ∃ xs x, SqL K H a xs ∧ xs[i]? = some x, fun i H x H' => H' = H ∧ ∀ xs, SqL K H a xs → xs[i]? = some x, fun i H => ∃ xs, SqL K H a xs ∧ xs.length ≤ i⟩
def Itt (K : PySem.W.Frag) (a : Addr) : It :=
  ⟨fun i H => ∃ xs x, SqT K H a xs ∧ xs[i]? = some x, fun i H x H' => H' = H ∧ ∀ xs, SqT K H a xs → xs[i]? = some x, fun i H => ∃ xs, SqT K H a xs ∧ xs.length ≤ i⟩
/-- lo, lo + 1, .. (n of them) -/
def Itr (lo : Int) (n : Nat) : It := ⟨fun i _ => i < n, fun i H x H' => H' = H ∧ x = .int (lo + i), fun i _ => n ≤ i⟩
theorem turn_list {P : Program} {w : World} {K : PySem.W.Frag} {tg : Expr} (a it : Addr) : Turn P w K tg (Itl K a) [it] it (fun i h => h.IsListIter it a i) where
  mem := by simp
  obj := fun i h st b hb => by
    have e : b = it := by simpa using hb
    subst e
    obtain ⟨o, e, c, d⟩ := st
    exact ⟨o, e, fun v z => by rw [d] at z; cases z⟩
  keep := fun i h h' st k => st.at fun o e => k it (by simp) o e
  item := by
    intro X hP hw hK hc i pins s σ H E I hf st hg
    subst hP hw hK
    obtain ⟨xs, x, hq, hx⟩ := hg
    obtain ⟨its, rv, p, hz⟩ := I.list hq
    obtain ⟨u, hu, ru⟩ := rv.get hx
    obtain ⟨f0, f1, f2, f3, f4, f5⟩ := hf it (by simp)
    refine wpAny_pyNext_list_item st p.isList (x := u) (by simpa using hu) fun h' st' sb => ?_
    have I1 : Inv X pins σ H { s with heap := h' } := I.turned (t' := s.toks) (fun b o hb e => (sb.2 b hb).trans e) f0 f1 f3 f4 f5
    obtain ⟨o, e, c, d⟩ := id st'
    exact ⟨u, rfl, go_of (s := { s with heap := h' }) e c d (by decide) ⟨x, H, I1, ru, ⟨rfl, fun ys hy => by rw [I.list_inj hy hq]; exact hx⟩, st', fun b hb => (hf b hb).1⟩⟩
  done := by
    intro X hP hw hK hc i pins s σ H E I hf st hg
    subst hP hw hK
    obtain ⟨xs, hq, hx⟩ := hg
    obtain ⟨its, rv, p, hz⟩ := I.list hq
    obtain ⟨f0, f1, f2, f3, f4, f5⟩ := hf it (by simp)
    have hl := rv.length
    exact wpAny_pyNext_list_end (I.ok.hd hc) st p.isList (by simp; omega) fun h' eb => ⟨rfl, I.turned (t' := s.toks) (fun b o hb e => eb b o hb e) f0 f1 f3 f4 f5⟩
  self := fun _ _ _ _ _ st h => wpAny_pyIter_listiter st h
theorem turn_tuple {P : Program} {w : World} {K : PySem.W.Frag} {tg : Expr} (a it : Addr) : Turn P w K tg (Itt K a) [it] it (fun i h => h.IsTupleIter it a i) where
  mem := by simp
  obj := fun i h st b hb => by
    have e : b = it := by simpa using hb
    subst e
    obtain ⟨o, e, c, d⟩ := st
    exact ⟨o, e, fun v z => by rw [d] at z; cases z⟩
  keep := fun i h h' st k => st.at fun o e => k it (by simp) o e
  item := by
    intro X hP hw hK hc i pins s σ H E I hf st hg
    subst hP hw hK
    obtain ⟨xs, x, hq, hx⟩ := hg
    obtain ⟨its, rv, p, hz⟩ := I.tuple hq
    obtain ⟨u, hu, ru⟩ := rv.get hx
    obtain ⟨f0, f1, f2, f3, f4, f5⟩ := hf it (by simp)
    refine wpAny_pyNext_tuple_item st (show s.heap.IsTuple a its.toArray from p) (x := u) (by simpa using hu) fun h' st' sb => ?_
    have I1 : Inv X pins σ H { s with heap := h' } := I.turned (t' := s.toks) (fun b o hb e => (sb.2 b hb).trans e) f0 f1 f3 f4 f5
    obtain ⟨o, e, c, d⟩ := id st'
    exact ⟨u, rfl, go_of (s := { s with heap := h' }) e c d (by decide) ⟨x, H, I1, ru, ⟨rfl, fun ys hy => by rw [I.tuple_inj hy hq]; exact hx⟩, st', fun b hb => (hf b hb).1⟩⟩
  done := by
    intro X hP hw hK hc i pins s σ H E I hf st hg
    subst hP hw hK
    obtain ⟨xs, hq, hx⟩ := hg
    obtain ⟨its, rv, p, hz⟩ := I.tuple hq
    obtain ⟨f0, f1, f2, f3, f4, f5⟩ := hf it (by simp)
    have hl := rv.length
    exact wpAny_pyNext_tuple_end (I.ok.hd hc) st (show s.heap.IsTuple a its.toArray from p) (by simp; omega) fun h' eb => ⟨rfl, I.turned (t' := s.toks) (fun b o hb e => eb b o hb e) f0 f1 f3 f4 f5⟩
  self := fun _ _ _ _ _ st h => wpAny_pyIter_tupleiter st h
theorem turn_range {P : Program} {w : World} {K : PySem.W.Frag} {tg : Expr} (it : Addr) (lo : Int) (n : Nat) : Turn P w K tg (Itr lo n) [it] it (fun i h => IsRangeIter h it (lo + (i : Nat) * 1) ((n : Int) - (i : Nat)) 1) where
  mem := by simp
  obj := fun i h st b hb => by
    have e : b = it := by simpa using hb
    subst e
    exact ⟨_, st, fun v z => by
      have z' : Data.fields _ = Data.cell v := z
      cases z'⟩
  keep := fun i h h' st k => k it (by simp) _ st
  item := by
    intro X hP hw hK hc i pins s σ H E I hf st hg
    subst hP hw hK
    obtain ⟨f0, f1, f2, f3, f4, f5⟩ := hf it (by simp)
    have W := Walks.range (prog := X.prog) (w := X.w) (I.ok.hd hc) it lo 1 n
    refine W.item i s _ _ hg st fun v h' tk hv st' kk => ?_
    obtain ⟨t, rfl⟩ := hv
    have I1 : Inv X pins σ H { s with heap := h', toks := tk } := I.turned (fun b o hb e => kk b o (by simpa using hb) e) f0 f1 f3 f4 f5
    refine ⟨_, rfl, go_of (s := { s with heap := h', toks := tk }) (n := "range_iterator") st' rfl rfl (by decide) ⟨.int (lo + i), H, I1, ⟨t, ?_⟩, ⟨rfl, rfl⟩, st', fun b hb => (hf b hb).1⟩⟩
    rw [Int.mul_one]
  done := by
    intro X hP hw hK hc i pins s σ H E I hf st hg
    subst hP hw hK
    obtain ⟨f0, f1, f2, f3, f4, f5⟩ := hf it (by simp)
    exact wpAny_pyNext_range_end (I.ok.hd hc) st (by have : n ≤ i := hg; omega) fun h' eb => ⟨rfl, I.turned (t' := s.toks) (fun b o hb e => eb b o hb e) f0 f1 f3 f4 f5⟩
  self := fun _ _ _ _ _ st h => wpAny_pyIter_rangeiter st h
end L2

namespace L2
open PySem PySem.Spec PyProof.Rows
section
variable {X : Cx} {tg : Expr}
def iList (K : PySem.W.Frag) (tl : TE) : TI := fun σ H R => tl σ H fun x H1 => ∃ a, x = .ref a ∧ (∃ xs, SqL K H1 a xs) ∧ R (Itl K a) H1
def iTup (K : PySem.W.Frag) (tl : TE) : TI := fun σ H R => tl σ H fun x H1 => ∃ a, x = .ref a ∧ (∃ xs, SqT K H1 a xs) ∧ R (Itt K a) H1
theorem pi_list {l : Expr} {tl : TE} (hl : PE X l tl) : PI X tg l (iList X.K tl) := by
  intro pins s σ H R I h
  refine thn (hl pins s σ H _ I h) fun v s1 ⟨x, H1, I1, r1, q1⟩ => ?_
  obtain ⟨a, e, ⟨xs, hq⟩, q⟩ := q1
  subst e
  cases r1
  obtain ⟨its, rv, p, hz⟩ := I1.list hq
  refine wpAny_pyIter_list p.isList ?_
  refine ⟨s1.heap.objs.size, [s1.heap.objs.size], _, _, H1, rfl, I1.kept (t' := s1.toks) fun b o e => Heap.get?_push_of_some _ e, turn_list a _, ⟨_, Heap.get?_push_size _ rfl, rfl, rfl⟩, fun b hb => ?_, q⟩
  have e : b = s1.heap.objs.size := by simpa using hb
  subst e
  exact I1.fpOk (Nat.le_refl _) (I1.hok.fresh (Nat.le_refl _))
theorem pi_tup {l : Expr} {tl : TE} (hl : PE X l tl) : PI X tg l (iTup X.K tl) := by
  intro pins s σ H R I h
  refine thn (hl pins s σ H _ I h) fun v s1 ⟨x, H1, I1, r1, q1⟩ => ?_
  obtain ⟨a, e, ⟨xs, hq⟩, q⟩ := q1
  subst e
  cases r1
  obtain ⟨its, rv, p, hz⟩ := I1.tuple hq
  refine wpAny_pyIter_tuple (show s1.heap.IsTuple a its.toArray from p) ?_
  refine ⟨s1.heap.objs.size, [s1.heap.objs.size], _, _, H1, rfl, I1.kept (t' := s1.toks) fun b o e => Heap.get?_push_of_some _ e, turn_tuple a _, ⟨_, Heap.get?_push_size _ rfl, rfl, rfl⟩, fun b hb => ?_, q⟩
  have e : b = s1.heap.objs.size := by simpa using hb
  subst e
  exact I1.fpOk (Nat.le_refl _) (I1.hok.fresh (Nat.le_refl _))
/-- a range object just made, walked -/
theorem range_it {pins : List (Addr × Obj)} {σ : St} {H : Hp} {s : Shared} {R : It → Hp → Prop} {E : Value → Shared → Prop} {lo hi : Int} {t u v : Tok} {tk : Nat} (I : Inv X pins σ H s) (h1 : -(2 ^ 62) ≤ lo) (h2 : lo < 2 ^ 62) (h3 : -(2 ^ 62) ≤ hi) (h4 : hi < 2 ^ 62)
    (q : R (Itr lo (hi - lo).toNat) H) : wpAny (model X.prog X.w) X.A (pyIter (.ref s.heap.objs.size)) (PIE X pins σ tg R) E { s with heap := s.heap.push { cls := .type "range", data := .fields #[.int lo t, .int hi u, .int 1 v] }, toks := tk } := by
  refine wpAny_pyIter_range (IsRange.new ..) (small_one h1 h2 h3 h4) ?_
  have I1 : Inv X pins σ H { s with heap := s.heap.push { cls := .type "range", data := .fields #[.int lo t, .int hi u, .int 1 v] }, toks := tk } := I.kept fun b o e => Heap.get?_push_of_some _ e
  refine ⟨(s.heap.push { cls := .type "range", data := .fields #[.int lo t, .int hi u, .int 1 v] }).objs.size, [(s.heap.push { cls := .type "range", data := .fields #[.int lo t, .int hi u, .int 1 v] }).objs.size], _, _, H, rfl,
    I1.kept (t' := tk) fun b o e => Heap.get?_push_of_some _ e, turn_range _ lo (hi - lo).toNat, ?_, fun b hb => ?_, q⟩
  · have e1 : lo + ((0 : Nat) : Int) * 1 = lo := by simp
    have e2 : (((hi - lo).toNat : Nat) : Int) - ((0 : Nat) : Int) = Builtin.Range.rangeSize lo hi 1 := by rw [rangeSize_one]; split <;> omega
    show IsRangeIter _ _ (lo + ((0 : Nat) : Int) * 1) ((((hi - lo).toNat : Nat) : Int) - ((0 : Nat) : Int)) 1
    rw [e1, e2]
    exact Heap.get?_push_size _ rfl
  · have e : b = (s.heap.push { cls := .type "range", data := .fields #[.int lo t, .int hi u, .int 1 v] }).objs.size := by simpa using hb
    subst e
    exact I1.fpOk (Nat.le_refl _) (I1.hok.fresh (Nat.le_refl _))
def iRng1 (ta : TA) : TI := fun σ H R => ta σ H fun vs H1 => ∃ j : Int, vs = [.int j] ∧ -(2 ^ 62) ≤ j ∧ j < 2 ^ 62 ∧ R (Itr 0 j.toNat) H1
theorem pi_range1 {a : Expr} {ta : TA} {p pos : Pos} (hg : Gl X "range") (hm : X.mg "range" = none) (ha : PA X [a] ta) (hs : starEach [a] X.env = [(false, eval a X.env)] := by rfl) : PI X tg (.Call (.Name "range" p) [a] [] pos) (iRng1 ta) := by
  intro pins s σ H R I h
  refine Call_ (ld_blt I hg hm boot_range (PyProof.Rows.callWith_type1 (thn (ha pos pins s σ H _ I h) fun us s1 ⟨vs, H1, I1, r1, q1⟩ => ?_) hs rfl))
  obtain ⟨j, e, q1, q2, q⟩ := q1
  subst e
  cases r1 with
  | cons r rr =>
    cases rr
    obtain ⟨t, rfl⟩ := r
    exact call_range_1 (range_it I1 (by omega) (by omega) q1 q2 (by simpa using q))
/-! ### for -/
/-- W: the invariant by the turn and a measure; N: what the body is to reach -/
def tFor (wi : TI) (g : TG) (tb : TS) : TS := fun D σ H => wi σ H fun J H1 => ∃ W : Nat → Nat → St → Hp → Prop, (∃ m, W 0 m σ H1) ∧ ∀ i m σ H, W i m σ H →
  (J.stop i H ∧ D.nx σ H) ∨ (J.go i H ∧ ∃ N : St → Hp → Prop, (∀ σ' H', N σ' H' → ∃ m', m' < m ∧ W (i + 1) m' σ' H') ∧ ∀ x H', J.yld i H x H' → g x σ H' fun σ2 H2 => tb { D with nx := N, ct := N, bk := D.nx } σ2 H2)
/-- the records at fp as they stand -/
def pinsAt (fp : List Addr) (h : Heap) : List (Addr × Obj) := fp.filterMap fun b => (h.get? b).map fun o => (b, o)
theorem mem_pinsAt {fp : List Addr} {h : Heap} {b : Addr} {o : Obj} (hb : b ∈ fp) (e : h.get? b = some o) : (b, o) ∈ pinsAt fp h := List.mem_filterMap.mpr ⟨b, hb, by rw [e]; rfl⟩
theorem of_pinsAt {fp : List Addr} {h : Heap} {p : Addr × Obj} (hp : p ∈ pinsAt fp h) : p.1 ∈ fp ∧ h.get? p.1 = some p.2 := by
  obtain ⟨b, hb, e⟩ := List.mem_filterMap.mp hp
  cases q : h.get? b with
  | none => rw [q] at e; cases e
  | some o =>
    rw [q] at e
    have e' : (b, o) = p := Option.some.inj e
    subst e'
    exact ⟨hb, q⟩
theorem Inv.pinned {pins : List (Addr × Obj)} {σ : St} {H : Hp} {s : Shared} {fp : List Addr} (I : Inv X pins σ H s) (hf : ∀ b ∈ fp, FpOk X pins H b) (ho : ∀ b ∈ fp, ∃ o, s.heap.get? b = some o ∧ ∀ v, o.data ≠ .cell v) : Inv X (pins ++ pinsAt fp s.heap) σ H s :=
  I.pins_of fun p hp => (List.mem_append.mp hp).elim (fun z => I.pin p (List.mem_append_right _ z)) fun z => by
    obtain ⟨hb, e⟩ := of_pinsAt z
    obtain ⟨f0, f1, f2, _⟩ := hf p.1 hb
    obtain ⟨o, e', d⟩ := ho p.1 hb
    rw [e] at e'; cases e'
    exact ⟨e, f0, f1, f2, d⟩
theorem Inv.unpinned {pins pl : List (Addr × Obj)} {σ : St} {H : Hp} {s : Shared} (I : Inv X (pins ++ pl) σ H s) : Inv X pins σ H s := I.pins_of fun p hp => I.pin p (List.mem_append_right _ (List.mem_append_left _ hp))
theorem ps_for {iter : Expr} {body : List Stmt} {wi : TI} {g : TG} {tb : TS} {pos : Pos} (hp : PassesOwn (model X.prog X.w) X.A X.env X.xe) (hc : X.calm = true) (hi : PI X tg iter wi) (hg : PG X tg g) (hb : PSs X body tb)
    (hs : ∀ x, foldedSetIterable iter X.env x = pure x := by intro _; rfl) : PS X (.For tg iter body [] pos) (tFor wi g tb) := by
  intro pins s σ H D I h
  refine wpAny_For (thn (hi pins s σ H _ I h) fun v s1 h1 => thn h1 fun itv s2 h2 => ?_) hs
  obtain ⟨it, fp, tn, J, H2, e, I2, T, st2, f2, W, ⟨m0, w0⟩, turn⟩ := h2
  subst e
  -- what stays true of the iterator's objects through the loop
  have stat : ∀ {H' : Hp}, (∀ b ∈ fp, H' b = none) → ∀ b ∈ fp, FpOk X pins H' b := fun hn b hb => ⟨hn b hb, (f2 b hb).2⟩
  refine codeAny_forLoop_any (fun n s' => ∃ i σ' H', Inv X pins σ' H' s' ∧ tn i s'.heap ∧ (∀ b ∈ fp, H' b = none) ∧ W i n σ' H') ?_ m0 ⟨0, σ, H2, I2, st2, fun b hb => (f2 b hb).1, w0⟩
  rintro n s3 ⟨i, σ3, H3, I3, st3, fr3, w3⟩
  rcases turn i n σ3 H3 w3 with ⟨stop, qn⟩ | ⟨go, N, hN, step⟩
  · refine wpAny_passesOwn hp (thn (T.done X rfl rfl rfl hc i pins s3 σ3 H3 X.xe I3 (stat fr3) st3 stop) fun r s4 ⟨hr, I4⟩ => ?_)
    subst hr
    exact wpAny_execs_nil ⟨σ3, H3, I4, qn⟩
  · refine wpAny_passesOwn hp (thn (T.item X rfl rfl rfl hc i pins s3 σ3 H3 X.xe I3 (stat fr3) st3 go) fun r s4 ⟨u, hr, h4⟩ => ?_)
    subst hr
    refine wpAny_passesOwn hp (thn h4 fun _ s5 ⟨x, H5, I5, r5, y5, st5, fr5⟩ => ?_)
    have I5' := I5.pinned (stat fr5) (T.obj _ _ st5)
    refine wpAny_passesOwn hp (thn (hg _ s5 σ3 H5 x u _ I5' r5 (step x H5 y5)) fun _ s6 ⟨σ6, H6, I6, q6⟩ => ?_)
    refine wpAny_passesOwn hp (thn (hb _ s6 σ6 H6 _ I6 q6) fun f s7 q7 => ?_)
    have again : ∀ {σ7 : St} {H7 : Hp}, Inv X (pins ++ pinsAt fp s5.heap) σ7 H7 s7 → N σ7 H7 → ∃ m, m < n ∧ ∃ i σ' H', Inv X pins σ' H' s7 ∧ tn i s7.heap ∧ (∀ b ∈ fp, H' b = none) ∧ W i m σ' H' := fun {σ7 H7} I7 n7 => by
      obtain ⟨m', hm, w7⟩ := hN σ7 H7 n7
      refine ⟨m', hm, i + 1, σ7, H7, I7.unpinned, T.keep _ _ _ st5 fun b hb o e => (I7.pin (b, o) (List.mem_append_right _ (List.mem_append_right _ (mem_pinsAt hb e)))).1, fun b hb => ?_, w7⟩
      obtain ⟨o, e, d⟩ := T.obj _ _ st5 b hb
      exact (I7.pin (b, o) (List.mem_append_right _ (List.mem_append_right _ (mem_pinsAt hb e)))).2.1
    cases f with
    | next => obtain ⟨σ7, H7, I7, n7⟩ := q7; exact again I7 n7
    | cont => obtain ⟨σ7, H7, I7, n7⟩ := q7; exact again I7 n7
    | brk => obtain ⟨σ7, H7, I7, q7⟩ := q7; exact ⟨σ7, H7, I7.unpinned, q7⟩
    | ret v => obtain ⟨x7, σ7, H7, I7, r7, q7⟩ := q7; exact ⟨x7, σ7, H7, I7.unpinned, r7, q7⟩
end

/-! ### the forms one uses -/
/-- over a list that the body leaves as it is -/
theorem for_list {K : PySem.W.Frag} {a : Addr} {xs : List V} {g : TG} {tb : TS} {D : Ends} {σ : St} {H : Hp} (Pv : Nat → St → Hp → Prop) (h0 : Pv 0 σ H) (hl : ∀ i σ H, i ≤ xs.length → Pv i σ H → SqL K H a xs)
    (hs : ∀ i x σ H, xs[i]? = some x → Pv i σ H → g x σ H fun σ2 H2 => tb { D with nx := Pv (i + 1), ct := Pv (i + 1), bk := D.nx } σ2 H2) (hd : ∀ σ H, Pv xs.length σ H → D.nx σ H) :
    ∃ W : Nat → Nat → St → Hp → Prop, (∃ m, W 0 m σ H) ∧ ∀ i m σ H, W i m σ H →
      ((Itl K a).stop i H ∧ D.nx σ H) ∨ ((Itl K a).go i H ∧ ∃ N : St → Hp → Prop, (∀ σ' H', N σ' H' → ∃ m', m' < m ∧ W (i + 1) m' σ' H') ∧ ∀ x H', (Itl K a).yld i H x H' → g x σ H' fun σ2 H2 => tb { D with nx := N, ct := N, bk := D.nx } σ2 H2) := by
  refine ⟨fun i m σ H => m = xs.length - i ∧ i ≤ xs.length ∧ Pv i σ H, ⟨xs.length, by simp, Nat.zero_le _, h0⟩, ?_⟩
  rintro i m σ H ⟨rfl, hi, p⟩
  have q := hl i σ H hi p
  by_cases hlt : i < xs.length
  · refine .inr ⟨⟨xs, xs[i], q, by simp [hlt]⟩, Pv (i + 1), fun σ' H' p' => ⟨xs.length - (i + 1), by omega, rfl, hlt, p'⟩, fun x H' y => ?_⟩
    obtain ⟨e, y⟩ := y
    subst e
    exact hs i x σ _ (y xs q) p
  · have e : i = xs.length := by omega
    subst e
    exact .inl ⟨⟨xs, q, Nat.le_refl _⟩, hd σ H p⟩
theorem for_range {lo : Int} {n : Nat} {g : TG} {tb : TS} {D : Ends} {σ : St} {H : Hp} (Pv : Nat → St → Hp → Prop) (h0 : Pv 0 σ H)
    (hs : ∀ i σ H, i < n → Pv i σ H → g (.int (lo + i)) σ H fun σ2 H2 => tb { D with nx := Pv (i + 1), ct := Pv (i + 1), bk := D.nx } σ2 H2) (hd : ∀ σ H, Pv n σ H → D.nx σ H) :
    ∃ W : Nat → Nat → St → Hp → Prop, (∃ m, W 0 m σ H) ∧ ∀ i m σ H, W i m σ H →
      ((Itr lo n).stop i H ∧ D.nx σ H) ∨ ((Itr lo n).go i H ∧ ∃ N : St → Hp → Prop, (∀ σ' H', N σ' H' → ∃ m', m' < m ∧ W (i + 1) m' σ' H') ∧ ∀ x H', (Itr lo n).yld i H x H' → g x σ H' fun σ2 H2 => tb { D with nx := N, ct := N, bk := D.nx } σ2 H2) := by
  refine ⟨fun i m σ H => m = n - i ∧ i ≤ n ∧ Pv i σ H, ⟨n, by simp, Nat.zero_le _, h0⟩, ?_⟩
  rintro i m σ H ⟨rfl, hi, p⟩
  by_cases hlt : i < n
  · refine .inr ⟨hlt, Pv (i + 1), fun σ' H' p' => ⟨n - (i + 1), by omega, rfl, hlt, p'⟩, fun x H' y => ?_⟩
    obtain ⟨e, y⟩ := y
    subst e y
    exact hs i σ _ hlt p
  · have e : i = n := by omega
    subst e
    exact .inl ⟨Nat.le_refl _, hd σ H p⟩
/-- while, by a word and a measure of the state -/
theorem while_by {c : TT} {tb : TS} {D : Ends} {σ : St} {H : Hp} (Pv : St → Hp → Prop) (μ : St → Hp → Nat) (h0 : Pv σ H)
    (hs : ∀ σ H, Pv σ H → c σ H fun b H1 => if b = true then tb { D with nx := fun σ' H' => Pv σ' H' ∧ μ σ' H' < μ σ H, ct := fun σ' H' => Pv σ' H' ∧ μ σ' H' < μ σ H, bk := D.nx } σ H1 else D.nx σ H1)
    (mono : ∀ σ H Q Q', (∀ b H1, Q b H1 → Q' b H1) → c σ H Q → c σ H Q') : tWhile c tb D σ H := by
  refine ⟨fun m σ H => m = μ σ H ∧ Pv σ H, ⟨_, rfl, h0⟩, ?_⟩
  rintro m σ H ⟨rfl, p⟩
  refine mono σ H _ _ (fun b H1 q => ?_) (hs σ H p)
  cases b with
  | true => exact ⟨_, fun σ' H' ⟨p', l⟩ => ⟨_, l, rfl, p'⟩, q⟩
  | false => exact q
end L2

namespace L2
open PySem PySem.Spec PyProof.Rows

abbrev R2 := V → V → Hp → VK → Prop
/-- a two-place operation on values: f is binaryOp op, inplaceOp op or compareOp op -/
def OpR (X : Cx) (f : Value → Value → Sem Value) (r : R2) : Prop :=
  ∀ (pins : List (Addr × Obj)) (s : Shared) (σ : St) (H : Hp) (x y : V) (v u : Value) (Q : VK), Inv X pins σ H s → RelV x v → RelV y u → r x y H Q →
    wpAny (model X.prog X.w) X.A (f v u) (EP X pins σ Q) X.xe s
/-- a one-place operation -/
def UnR (X : Cx) (f : Value → Sem Value) (r : V → Hp → VK → Prop) : Prop :=
  ∀ (pins : List (Addr × Obj)) (s : Shared) (σ : St) (H : Hp) (x : V) (v : Value) (Q : VK), Inv X pins σ H s → RelV x v → r x H Q →
    wpAny (model X.prog X.w) X.A (f v) (EP X pins σ Q) X.xe s
/-- a call of a value that is known (a builtin, a type) with values -/
def CallR (X : Cx) (f : Value) (r : List V → Hp → VK → Prop) : Prop :=
  ∀ (pins : List (Addr × Obj)) (s : Shared) (σ : St) (H : Hp) (xs : List V) (us : List Value) (Q : VK), Inv X pins σ H s → Vals xs us → r xs H Q →
    wpAny (model X.prog X.w) X.A (call f us) (EP X pins σ Q) X.xe s
/-- a value's truth -/
def TruR (X : Cx) (r : V → Hp → (Bool → Hp → Prop) → Prop) : Prop :=
  ∀ (pins : List (Addr × Obj)) (s : Shared) (σ : St) (H : Hp) (x : V) (v : Value) (Q : Bool → Hp → Prop), Inv X pins σ H s → RelV x v → r x H Q →
    wpAny (model X.prog X.w) X.A (truthy v) (TP X pins σ Q) X.xe s

def tOp (r : R2) (ta tb : TE) : TE := fun σ H Q => ta σ H fun x H1 => tb σ H1 fun y H2 => r x y H2 Q
def tUn (r : V → Hp → VK → Prop) (ta : TE) : TE := fun σ H Q => ta σ H fun x H1 => r x H1 Q
/-- ints in, under C, and a value out -/
def rI (C : Int → Int → Prop) (g : Int → Int → V) : R2 := fun x y H Q => ∃ i j, x = .int i ∧ y = .int j ∧ C i j ∧ Q (g i j) H
def rI0 (g : Int → Int → V) : R2 := fun x y H Q => ∃ i j, x = .int i ∧ y = .int j ∧ Q (g i j) H
def rU (g : Int → V) : V → Hp → VK → Prop := fun x H Q => ∃ i, x = .int i ∧ Q (g i) H

section
variable {X : Cx} {a b c : Expr} {ta tb tc : TE} {pos : Pos}

theorem binT (ha : PE X a ta) (hb : PE X b tb) {pins : List (Addr × Obj)} {s : Shared} {σ : St} {H : Hp} {R : V → V → Hp → Prop} (I : Inv X pins σ H s)
    (h : ta σ H fun x H1 => tb σ H1 fun y H2 => R x y H2) {Q : Value → Shared → Prop} {f : Value → Value → Sem Value}
    (hf : ∀ v u s2 x y H2, Inv X pins σ H2 s2 → RelV x v → RelV y u → R x y H2 → wpAny (model X.prog X.w) X.A (f v u) Q X.xe s2) :
    wpAny (model X.prog X.w) X.A (eval a X.env) (fun v s₁ => wpAny (model X.prog X.w) X.A (eval b X.env) (fun u s₂ => wpAny (model X.prog X.w) X.A (f v u) Q X.xe s₂) X.xe s₁) X.xe s := by
  refine thn (ha pins s σ H _ I h) fun v s1 ⟨x, H1, I1, r1, q1⟩ => ?_
  refine thn (hb pins s1 σ H1 _ I1 q1) fun u s2 ⟨y, H2, I2, r2, q2⟩ => ?_
  exact hf v u s2 x y H2 I2 r1 r2 q2

theorem pe_op {op : Operator} {r : R2} (ho : OpR X (binaryOp op) r) (ha : PE X a ta) (hb : PE X b tb) : PE X (.BinOp a op b pos) (tOp r ta tb) := by
  intro pins s σ H Q I h
  exact wpAny_BinOp (binT ha hb I h fun v u s2 x y H2 I2 rx ry q => ho pins s2 σ H2 x y v u Q I2 rx ry q)
theorem pe_un {op : UnaryOp} {r : V → Hp → VK → Prop} (ho : UnR X (unaryOp op) r) (ha : PE X a ta) : PE X (.UnaryOp op a pos) (tUn r ta) := by
  intro pins s σ H Q I h
  exact UnaryOp_ (thn (ha pins s σ H _ I h) fun v s1 ⟨x, H1, I1, r1, q1⟩ => ho pins s1 σ H1 x v Q I1 r1 q1)
/-! ### ints -/
theorem opI {f : Value → Value → Sem Value} {C : Int → Int → Prop} {g : Int → Int → Int}
    (rule : ∀ (i j : Int) (t u : Tok) (s : Shared) (Q : Value → Shared → Prop) (E : Value → Shared → Prop), C i j → Q (.int (g i j) s.toks) { s with toks := s.toks + 1 } → wpAny (model X.prog X.w) X.A (f (.int i t) (.int j u)) Q E s) :
    OpR X f (rI C fun i j => .int (g i j)) := by
  intro pins s σ H x y v u Q I rx ry h
  obtain ⟨i, j, rfl, rfl, hc, q⟩ := h
  obtain ⟨t, rfl⟩ := rx
  obtain ⟨t', rfl⟩ := ry
  exact rule i j t t' s _ _ hc ⟨.int (g i j), H, I.tok _, ⟨_, rfl⟩, q⟩
theorem opI0 {f : Value → Value → Sem Value} {g : Int → Int → Int}
    (rule : ∀ (i j : Int) (t u : Tok) (s : Shared) (Q : Value → Shared → Prop) (E : Value → Shared → Prop), Q (.int (g i j) s.toks) { s with toks := s.toks + 1 } → wpAny (model X.prog X.w) X.A (f (.int i t) (.int j u)) Q E s) :
    OpR X f (rI0 fun i j => .int (g i j)) := by
  intro pins s σ H x y v u Q I rx ry h
  obtain ⟨i, j, rfl, rfl, q⟩ := h
  obtain ⟨t, rfl⟩ := rx
  obtain ⟨t', rfl⟩ := ry
  exact rule i j t t' s _ _ ⟨.int (g i j), H, I.tok _, ⟨_, rfl⟩, q⟩
theorem opB0 {f : Value → Value → Sem Value} {g : Int → Int → Bool}
    (rule : ∀ (i j : Int) (t u : Tok) (s : Shared) (Q : Value → Shared → Prop) (E : Value → Shared → Prop), Q (.bool (g i j)) s → wpAny (model X.prog X.w) X.A (f (.int i t) (.int j u)) Q E s) :
    OpR X f (rI0 fun i j => .bl (g i j)) := by
  intro pins s σ H x y v u Q I rx ry h
  obtain ⟨i, j, rfl, rfl, q⟩ := h
  obtain ⟨t, rfl⟩ := rx
  obtain ⟨t', rfl⟩ := ry
  exact rule i j t t' s _ _ ⟨.bl (g i j), H, I, rfl, q⟩

def CDiv (i j : Int) : Prop := 0 < j ∧ j < 1073741824
def CPow (i j : Int) : Prop := 0 ≤ j ∧ j ≤ 1000000 ∧ i.natAbs < 2 ^ 64
def CMul (i j : Int) : Prop := (-(2 ^ 64) < i ∧ i < 2 ^ 64) ∨ (-(2 ^ 64) < j ∧ j < 2 ^ 64)
theorem CMul.ok {i j : Int} (h : CMul i j) : IntMulOk i j := by
  rcases h with ⟨h1, h2⟩ | ⟨h1, h2⟩
  · exact .of_left (intBits_le_64 h1 h2)
  · exact .of_right (intBits_le_64 h1 h2)
theorem op_add : OpR X (binaryOp .Add) (rI0 fun i j => .int (i + j)) := opI0 fun _ _ _ _ _ _ _ q => add_int q
theorem op_sub : OpR X (binaryOp .Sub) (rI0 fun i j => .int (i - j)) := opI0 fun _ _ _ _ _ _ _ q => sub_int q
theorem op_mul : OpR X (binaryOp .Mult) (rI CMul fun i j => .int (i * j)) := opI fun _ _ _ _ _ _ _ hc q => mul_int q hc.ok
/-- // by a positive divisor -/
theorem op_fdiv : OpR X (binaryOp .FloorDiv) (rI CDiv fun i j => .int (i / j)) := opI fun i j _ _ _ _ _ hc q => by
  have h1 : (0 : Int) < j := hc.1
  have h2 : j < 1073741824 := hc.2
  exact floordiv_int (by omega) (by rw [Int.fdiv_eq_ediv_of_nonneg i (by omega)]; exact q) (.inl (PyProof.noPylong_small (by omega)))
/-- % by a positive divisor of any size -/
theorem op_mod : OpR X (binaryOp .Mod) (rI (fun _ j => 0 < j) fun i j => .int (i % j)) := opI fun i j _ _ _ _ _ hc q => by
  have h1 : (0 : Int) < j := hc
  exact mod_int' (by omega) (by rw [Int.fmod_eq_emod_of_nonneg i (by omega)]; exact q)
theorem op_pow : OpR X (binaryOp .Pow) (rI CPow fun i j => .int (i ^ j.toNat)) := opI fun _ _ _ _ _ _ _ hc q => pow_int_small hc.1 hc.2.1 hc.2.2 q
theorem unI {f : Value → Sem Value} {g : Int → Int}
    (rule : ∀ (i : Int) (t : Tok) (s : Shared) (Q : Value → Shared → Prop) (E : Value → Shared → Prop), Q (.int (g i) s.toks) { s with toks := s.toks + 1 } → wpAny (model X.prog X.w) X.A (f (.int i t)) Q E s) :
    UnR X f (rU fun i => .int (g i)) := by
  intro pins s σ H x v Q I rx h
  obtain ⟨i, rfl, q⟩ := h
  obtain ⟨t, rfl⟩ := rx
  exact rule i t s _ _ ⟨.int (g i), H, I.tok _, ⟨_, rfl⟩, q⟩
theorem un_neg : UnR X (unaryOp .USub) (rU fun i => .int (-i)) := unI fun _ _ _ _ _ q => neg_int q
/-! ### bools among ints: n += (a < b) -/
end

/-! ### comparisons -/
/-- the scalars that == tells apart as data does -/
def scal : V → V → Bool
  | .non, .non => true | .non, .int _ => true | .int _, .non => true | .non, .bl _ => true | .bl _, .non => true | .non, .str _ => true | .str _, .non => true
  | .int _, .int _ => true | .bl _, .bl _ => true | .str _, .str _ => true | .byt _, .byt _ => true
  | .int _, .str _ => true | .str _, .int _ => true | .bl _, .str _ => true | .str _, .bl _ => true
  | _, _ => false
def rEq : R2 := fun x y H Q => scal x y = true ∧ Q (.bl (decide (x = y))) H
def rNe : R2 := fun x y H Q => scal x y = true ∧ Q (.bl (!decide (x = y))) H

theorem dec_int {i j : Int} : decide (V.int i = V.int j) = (i == j) := by
  rw [Bool.eq_iff_iff]
  simp
theorem dec_bl {i j : Bool} : decide (V.bl i = V.bl j) = (i == j) := by
  rw [Bool.eq_iff_iff]
  simp
theorem dec_str {i j : Str} : decide (V.str i = V.str j) = (i == j) := by
  rw [Bool.eq_iff_iff]
  simp
theorem dec_byt {i j : Array UInt8} : decide (V.byt i = V.byt j) = (i.toList == j.toList) := by
  rw [Bool.eq_iff_iff]
  cases i
  cases j
  simp

section
variable {X : Cx} {a b c : Expr} {ta tb tc : TE} {pos : Pos}
theorem fin_bl {pins : List (Addr × Obj)} {σ : St} {H : Hp} {s : Shared} {Q : VK} {k k' : Bool} (I : Inv X pins σ H s) (q : Q (.bl k) H) (e : k = k') : EP X pins σ Q (.bool k') s := by
  subst e
  exact ⟨.bl k, H, I, rfl, q⟩
theorem op_eq : OpR X (compareOp .Eq) rEq := by
  intro pins s σ H x y v u Q I rx ry h
  obtain ⟨hs, q⟩ := h
  cases x with
  | non =>
    cases rx
    cases y with
    | non => cases ry; exact PySem.EqNone.eq_none_none (fin_bl I q (by simp))
    | bl j => cases ry; exact PySem.EqNone.eq_none_bool (fin_bl I q (by simp))
    | int j => obtain ⟨t', rfl⟩ := ry; exact PySem.EqNone.eq_none_int (fin_bl I q (by simp))
    | str j => obtain ⟨t', rfl⟩ := ry; exact PySem.EqNone.eq_none_str (fin_bl I q (by simp))
    | _ => exact absurd (show false = true from hs) Bool.false_ne_true
  | bl i =>
    cases rx
    cases y with
    | non => cases ry; exact PySem.EqNone.eq_bool_none (fin_bl I q (by simp))
    | bl j => cases ry; exact eq_bool (fin_bl I q dec_bl)
    | str j => obtain ⟨t', rfl⟩ := ry; exact PySem.EqMixed.eq_bool_str (fin_bl I q (by simp))
    | _ => exact absurd (show false = true from hs) Bool.false_ne_true
  | int i =>
    obtain ⟨t, rfl⟩ := rx
    cases y with
    | non => cases ry; exact PySem.EqNone.eq_int_none (fin_bl I q (by simp))
    | int j => obtain ⟨t', rfl⟩ := ry; exact eq_int (fin_bl I q dec_int)
    | str j => obtain ⟨t', rfl⟩ := ry; exact PySem.EqMixed.eq_int_str (fin_bl I q (by simp))
    | _ => exact absurd (show false = true from hs) Bool.false_ne_true
  | str i =>
    obtain ⟨t, rfl⟩ := rx
    cases y with
    | non => cases ry; exact PySem.EqNone.eq_str_none (fin_bl I q (by simp))
    | bl j => cases ry; exact PySem.EqMixed.eq_str_bool (fin_bl I q (by simp))
    | int j => obtain ⟨t', rfl⟩ := ry; exact PySem.EqMixed.eq_str_int (fin_bl I q (by simp))
    | str j => obtain ⟨t', rfl⟩ := ry; exact eq_str (fin_bl I q dec_str)
    | _ => exact absurd (show false = true from hs) Bool.false_ne_true
  | byt i =>
    obtain ⟨t, rfl⟩ := rx
    cases y with
    | byt j => obtain ⟨t', rfl⟩ := ry; exact PySem.W.eq_bytes (fin_bl I q dec_byt)
    | _ => exact absurd (show false = true from hs) Bool.false_ne_true
  | _ => cases y <;> exact absurd (show false = true from hs) Bool.false_ne_true
theorem op_ne : OpR X (compareOp .NotEq) rNe := by
  intro pins s σ H x y v u Q I rx ry h
  obtain ⟨hs, q⟩ := h
  cases x with
  | non =>
    cases rx
    cases y with
    | non => cases ry; exact PySem.EqNone.ne_none_none (fin_bl I q (by simp))
    | bl j => cases ry; exact PySem.EqNone.ne_none_bool (fin_bl I q (by simp))
    | int j => obtain ⟨t', rfl⟩ := ry; exact PySem.EqNone.ne_none_int (fin_bl I q (by simp))
    | str j => obtain ⟨t', rfl⟩ := ry; exact PySem.EqNone.ne_none_str (fin_bl I q (by simp))
    | _ => exact absurd (show false = true from hs) Bool.false_ne_true
  | bl i =>
    cases rx
    cases y with
    | non => cases ry; exact PySem.EqNone.ne_bool_none (fin_bl I q (by simp))
    | bl j => cases ry; exact ne_bool (fin_bl I q (congrArg not dec_bl))
    | str j => obtain ⟨t', rfl⟩ := ry; exact PySem.EqMixed.ne_bool_str (fin_bl I q (by simp))
    | _ => exact absurd (show false = true from hs) Bool.false_ne_true
  | int i =>
    obtain ⟨t, rfl⟩ := rx
    cases y with
    | non => cases ry; exact PySem.EqNone.ne_int_none (fin_bl I q (by simp))
    | int j => obtain ⟨t', rfl⟩ := ry; exact ne_int (fin_bl I q (congrArg not dec_int))
    | str j => obtain ⟨t', rfl⟩ := ry; exact PySem.EqMixed.ne_int_str (fin_bl I q (by simp))
    | _ => exact absurd (show false = true from hs) Bool.false_ne_true
  | str i =>
    obtain ⟨t, rfl⟩ := rx
    cases y with
    | non => cases ry; exact PySem.EqNone.ne_str_none (fin_bl I q (by simp))
    | bl j => cases ry; exact PySem.EqMixed.ne_str_bool (fin_bl I q (by simp))
    | int j => obtain ⟨t', rfl⟩ := ry; exact PySem.EqMixed.ne_str_int (fin_bl I q (by simp))
    | str j => obtain ⟨t', rfl⟩ := ry; exact ne_str (fin_bl I q (congrArg not dec_str))
    | _ => exact absurd (show false = true from hs) Bool.false_ne_true
  | byt i =>
    obtain ⟨t, rfl⟩ := rx
    cases y with
    | byt j => obtain ⟨t', rfl⟩ := ry; exact PySem.W.ne_bytes (fin_bl I q (congrArg not dec_byt))
    | _ => exact absurd (show false = true from hs) Bool.false_ne_true
  | _ => cases y <;> exact absurd (show false = true from hs) Bool.false_ne_true

theorem op_lt : OpR X (compareOp .Lt) (rI0 fun i j => .bl (decide (i < j))) := opB0 fun _ _ _ _ _ _ _ q => lt_int q
theorem op_gt : OpR X (compareOp .Gt) (rI0 fun i j => .bl (decide (j < i))) := opB0 fun _ _ _ _ _ _ _ q => gt_int q
theorem op_ge : OpR X (compareOp .GtE) (rI0 fun i j => .bl (decide (j ≤ i))) := opB0 fun _ _ _ _ _ _ _ q => ge_int q
theorem nomark (b : Expr) {op : CmpOp} (h : op ≠ .In := by decide) (h2 : op ≠ .NotIn := by decide) : behindInMarks op b = false := by
  have e1 : (op == CmpOp.In) = false := by cases op <;> first | rfl | exact absurd rfl h
  have e2 : (op == CmpOp.NotIn) = false := by cases op <;> first | rfl | exact absurd rfl h2
  cases b <;> simp [behindInMarks, e1, e2]
/-- a comparison as a value; hm: nomark b, or (for in, not in) by with_unfolding_all rfl -/
theorem pe_cmpR {op : CmpOp} {r : R2} (ho : OpR X (compareOp op) r) (ha : PE X a ta) (hb : PE X b tb) (hm : behindInMarks op b = false) : PE X (.Compare a [op] [b] pos) (tOp r ta tb) := by
  intro pins s σ H Q I h
  exact wpAny_Compare1 (binT ha hb I h fun v u s2 x y H2 I2 rx ry q => ho pins s2 σ H2 x y v u Q I2 rx ry q) hm
/-- a reading of a value as a test -/
def tTest (t : TE) : TT := fun σ H Q => t σ H fun x H' => ∃ k, x = .bl k ∧ Q k H'
theorem pt_cmpR {op : CmpOp} {r : R2} (ho : OpR X (compareOp op) r) (ha : PE X a ta) (hb : PE X b tb) (hm : behindInMarks op b = false) : PT X (.Compare a [op] [b] pos) (tTest (tOp r ta tb)) := by
  intro pins s σ H Q I h
  refine wpAny_isTrue_Compare1 (thn (ha pins s σ H _ I h) fun v s1 ⟨x, H1, I1, r1, q1⟩ => thn (hb pins s1 σ H1 _ I1 q1) fun u s2 ⟨y, H2, I2, r2, q2⟩ =>
    thn (ho pins s2 σ H2 x y v u _ I2 r1 r2 q2) fun c s3 ⟨z, H3, I3, r3, k, e, q3⟩ => ?_) hm
  subst e
  cases r3
  exact wpAny_truthy_bool ⟨H3, I3, q3⟩
/-! ### truth -/
/-- a value's truth by the abstract heap -/
def TruV (K : PySem.W.Frag) (x : V) (H : Hp) (k : Bool) : Prop :=
  match x with
  | .non => k = false
  | .bl b => k = b
  | .int i => k = (i != 0)
  | .str y => y.length ≤ sizeLine ∧ k = ((y.length : Int) != 0)
  | .byt y => y.size ≤ sizeLine ∧ k = ((y.size : Int) != 0)
  | .ref p => (∃ xs, SqL K H p xs ∧ k = !xs.isEmpty) ∨ (∃ xs, SqT K H p xs ∧ k = !xs.isEmpty) ∨ ∃ kvs, H p = some (.dK kvs) ∧ k = !kvs.isEmpty
  | _ => False
theorem isEmpty_kv {κ : Type} {kvs : List (κ × V)} {vs : List (κ × Value)} (r : KV kvs vs) : (!vs.isEmpty) = !kvs.isEmpty := by
  cases r <;> rfl
theorem isEmpty_of {xs : List V} {its : List Value} (r : Vals xs its) : (!its.toArray.isEmpty) = !xs.isEmpty := by
  cases r <;> simp
theorem line63 : (sizeLine : Nat) < 2 ^ 63 := by rw [sizeLine_eq]; decide
theorem tru_ok : TruR X (fun x H Q => ∃ k, TruV X.K x H k ∧ Q k H) := by
  intro pins s σ H x v Q I rx h
  obtain ⟨k, e, q⟩ := h
  have hl := line63
  have hs : sizeLine = 16777216 := sizeLine_eq
  cases x with
  | non =>
    cases rx
    have e' : k = false := e
    subst e'
    exact truthy_none ⟨H, I, q⟩
  | bl b =>
    cases rx
    have e' : k = b := e
    subst e'
    exact wpAny_truthy_bool ⟨H, I, q⟩
  | int i =>
    obtain ⟨t, rfl⟩ := rx
    have e' : k = (i != 0) := e
    subst e'
    exact PySem.P.truthy_int ⟨H, I, q⟩
  | str y =>
    obtain ⟨t, rfl⟩ := rx
    obtain ⟨hy, e'⟩ : y.length ≤ sizeLine ∧ k = ((y.length : Int) != 0) := e
    subst e'
    exact PySem.P.truthy_str (by omega) ⟨H, I.tok _, q⟩
  | byt y =>
    obtain ⟨t, rfl⟩ := rx
    obtain ⟨hy, e'⟩ : y.size ≤ sizeLine ∧ k = ((y.size : Int) != 0) := e
    subst e'
    exact PySem.W.truthy_bytes (by omega) ⟨H, I.tok _, q⟩
  | ref p =>
    cases rx
    have e' : (∃ xs, SqL X.K H p xs ∧ k = !xs.isEmpty) ∨ (∃ xs, SqT X.K H p xs ∧ k = !xs.isEmpty) ∨ ∃ kvs, H p = some (.dK kvs) ∧ k = !kvs.isEmpty := e
    rcases e' with ⟨xs, hx, e'⟩ | ⟨xs, hx, e'⟩ | ⟨kvs, hx, e'⟩
    · subst e'
      obtain ⟨its, r, pl, hz⟩ := I.list hx
      have hlen := r.length
      exact wpAny_truthy_list pl.isList (by simp only [List.size_toArray]; omega) ⟨H, I.tok _, by rw [isEmpty_of r]; exact q⟩
    · subst e'
      obtain ⟨its, r, pl, hz⟩ := I.tuple hx
      have hlen := r.length
      exact truthy_tuple pl (by simp only [List.size_toArray]; omega) ⟨H, I.tok _, by rw [isEmpty_of r]; exact q⟩
    · subst e'
      obtain ⟨hz, hS, vs, r, m⟩ : kvs.length ≤ sizeLine ∧ (p == sysModules) = false ∧ ∃ vs, KV kvs vs ∧ s.heap.DictOf (mixKind X.prog X.w) p vs := I.hok p _ hx
      have hlen : kvs.length = vs.length := Paired.length r
      exact wpAny_truthy_dict hS m (by omega) ⟨H, I.tok _, by rw [isEmpty_kv r]; exact q⟩
  | _ => exact (show False from e).elim
/-- any expression whose test is its value's truth (a name, a call, a subscript, a field ..: he by fun _ => rfl) -/
theorem pt_truth (ha : PE X a ta) (he : ∀ whole, isTrue a X.env whole = (do let v ← whole; standAt a.pos; holding [v] (truthy v))) :
    PT X a (fun σ H Q => ta σ H fun x H' => ∃ k, TruV X.K x H' k ∧ Q k H') := by
  intro pins s σ H Q I h
  exact isTrue_plain (thn (ha pins s σ H _ I h) fun v s1 ⟨x, H1, I1, r1, q1⟩ => tru_ok pins s1 σ H1 x v Q I1 r1 q1) (he _)

/-! ### strs and bytes -/
/-! ### scalar builtins, by CallR -/
theorem vals1 {x : V} {us : List Value} (r : Vals [x] us) : ∃ u, us = [u] ∧ RelV x u := by
  cases r with
  | cons r1 r2 => cases r2; exact ⟨_, rfl, r1⟩
theorem vals2 {x y : V} {us : List Value} (r : Vals [x, y] us) : ∃ u w', us = [u, w'] ∧ RelV x u ∧ RelV y w' := by
  cases r with
  | cons r1 r2 =>
    cases r2 with
    | cons r3 r4 => cases r4; exact ⟨_, _, rfl, r1, r3⟩
theorem call_max2 (hc : X.calm = true) : CallR X (.builtin "max") (fun xs H Q => ∃ i j, xs = [.int i, .int j] ∧ Q (.int (if j > i then j else i)) H) := by
  intro pins s σ H xs us Q I r h
  obtain ⟨i, j, rfl, q⟩ := h
  obtain ⟨u, w', rfl, ⟨t, rfl⟩, ⟨t', rfl⟩⟩ := vals2 r
  refine max_two_ints (I.ok.hd hc) fun h' tk k => ⟨_, H, I.kept k, ?_, q⟩
  by_cases hj : j > i
  · rw [if_pos hj, if_pos hj]; exact ⟨_, rfl⟩
  · rw [if_neg hj, if_neg hj]; exact ⟨_, rfl⟩
theorem call_min2 (hc : X.calm = true) : CallR X (.builtin "min") (fun xs H Q => ∃ i j, xs = [.int i, .int j] ∧ Q (.int (if j < i then j else i)) H) := by
  intro pins s σ H xs us Q I r h
  obtain ⟨i, j, rfl, q⟩ := h
  obtain ⟨u, w', rfl, ⟨t, rfl⟩, ⟨t', rfl⟩⟩ := vals2 r
  refine min_two_ints (I.ok.hd hc) fun h' tk k => ⟨_, H, I.kept k, ?_, q⟩
  by_cases hj : j < i
  · rw [if_pos hj, if_pos hj]; exact ⟨_, rfl⟩
  · rw [if_neg hj, if_neg hj]; exact ⟨_, rfl⟩
end
end L2

namespace L2
open PySem PySem.Spec PyProof.Rows

/-! ### an instance, its attributes a map -/
structure ObjM (h : Heap) (x dx C : Addr) (mA : Str → Option Value) : Prop where
  obj : h.get? x = some (PySem.W.instObj C dx)
  ns : h.Ns1 dx mA
  ne : dx ≠ x

theorem lookIn_ns {h : Heap} {dx : Addr} {mA : Str → Option Value} (n : h.Ns1 dx mA) : ∃ od, h.get? dx = some od ∧ ∀ name, PySem.W.lookIn name od = some (mA name) := by
  obtain ⟨o, es, ep, ho, hd, hk, _, hm⟩ := n
  refine ⟨o, ho, fun name => ?_⟩
  have e := hm name
  unfold nsFind findBy at e
  rw [← Array.find?_toList] at e
  unfold PySem.W.lookIn
  rw [hd]
  dsimp only
  split
  · rename_i y q
    rw [q] at e
    exact congrArg some e
  · rename_i q
    rw [q] at e
    have a : es.toList.any (·.refKey) = false := by
      rw [List.any_eq_false]
      intro y hy
      obtain ⟨z, t, hkey⟩ := hk y (Array.mem_toList_iff.mp hy)
      simp [DictEntry.refKey, hkey]
    have a' : ¬ es.toList.any (·.refKey) = true := by rw [a]; exact Bool.false_ne_true
    rw [if_neg a']
    exact congrArg some e

theorem ObjM.look {h : Heap} {x dx C : Addr} {mA : Str → Option Value} (I : ObjM h x dx C mA) : ∃ od, PySem.W.InstAt h x (PySem.W.instObj C dx) C (some od) ∧ ∀ name, PySem.W.lookIn name od = some (mA name) :=
  let ⟨od, ho, hl⟩ := lookIn_ns I.ns
  ⟨od, ⟨I.obj, rfl, rfl, ho⟩, hl⟩

section
variable {prog : Program} {w : World} {A : Around} {E : Value → Shared → Prop} {s : Shared} {K : PySem.W.Frag} {x dx C f : Addr} {mA : Str → Option Value} {name : Str} {v : Value}

end

/-! ### the attributes as a list of pairs -/
theorem RelO.none_of {o : Option Value} (r : RelO none o) : o = none := by
  cases o with
  | none => rfl
  | some u => exact (show False from r).elim
section
variable {P : Program} {w : World} {H H' : Hp} {h h' : Heap} {a C dx : Addr} {fs fs' : List (Str × V)}
theorem ins_get (hok : HOk P w H h) (e : H a = some (.ins C dx fs)) : ∃ mA, ObjM h a dx C mA ∧ (∀ f, RelO (fs.lookup f) (mA f)) ∧ PySem.Within mA (fs.map (·.1)) ∧ fs.length ≤ 1000 ∧ H dx = some (.own a) := by
  obtain ⟨d, z, ne, ob, mA, n, r, q⟩ := (show ObjOk P w H h a (.ins C dx fs) from hok a _ e)
  exact ⟨mA, ⟨ob, n, ne⟩, r, q, z, d⟩
end

/-! ### what of the text a class must have -/
structure Cls (K : PySem.W.Frag) (C : Addr) : Prop where
  pg : PySem.W.plainGet K C Str.empty = true
  hd : PySem.W.hasDictIn K C = true
  po : PySem.W.plainOver K C = true
  sa : PySem.W.findIn K (.ref C) "__setattr__" = some (some (.builtin "object.__setattr__"))
theorem Cls.get {K : PySem.W.Frag} {C : Addr} (c : Cls K C) (f : Str) : PySem.W.plainGet K C f = true := c.pg
/-- a constant of the class -/
structure Con (K : PySem.W.Frag) (C : Addr) (f : Str) (v : V) (u : Value) : Prop where
  at_ : PySem.W.findIn K (.ref C) f = some (some u)
  rel : RelV v u
  get : PySem.W.specialIn K u "__get__" = some none
  cp : PySem.W.copiedNames.contains f = false
/-- a method: a plain def of the class or of one above it -/
structure Meth (K : PySem.W.Frag) (C : Addr) (m : Str) (f : Addr) : Prop where
  at_ : PySem.W.findIn K (.ref C) m = some (some (.ref f))
  fn : PySem.W.isFn K (.ref f) = true
  kp : PySem.W.keepIn K (.ref f) = true

section
variable {X : Cx} {pins : List (Addr × Obj)} {σ : St} {H : Hp} {s : Shared} {a C dx : Addr} {fs : List (Str × V)} {f : Str} {v : V} {A : Around} {E : Value → Shared → Prop}

end

/-! ### readings and rules -/
section
variable {X : Cx} {o e value : Expr} {f : Str} {pos pos' tpos : Pos} {ta tv : TE}
end

/-! ### isinstance -/
section
variable {X : Cx} {pins : List (Addr × Obj)} {σ : St} {H : Hp} {s : Shared} {A : Around} {E : Value → Shared → Prop} {Q : Value → Shared → Prop} {c : Value} {b : Bool}
/-- the type of a value, as the fragment's deciders take it; for an instance its class -/
inductive TyOf (K : PySem.W.Frag) (H : Hp) : V → Value → Prop where
  | non : TyOf K H .non (.type "NoneType")
  | bl (x : Bool) : TyOf K H (.bl x) (.type "bool")
  | int (i : Int) : TyOf K H (.int i) (.type "int")
  | str (x : Str) : TyOf K H (.str x) (.type "str")
  | flt (x : UInt64) : TyOf K H (.flt x) (.type "float")
  | lst {a : Addr} {xs : List V} (e : H a = some (.lst xs)) : TyOf K H (.ref a) (.type "list")
  | frz {a : Addr} {o : Obj} {xs : List V} (e : H a = some (.frz o (.lst xs))) : TyOf K H (.ref a) (.type "list")
  | tup {a : Addr} {xs : List V} (e : H a = some (.tup xs)) : TyOf K H (.ref a) (.type "tuple")
  | dK {a : Addr} {kvs : List (Key × V)} (e : H a = some (.dK kvs)) : TyOf K H (.ref a) (.type "dict")
  | dT {a : Addr} {kvs : List (List Key × V)} (e : H a = some (.dT kvs)) : TyOf K H (.ref a) (.type "dict")
  | ins {a C dx : Addr} {fs : List (Str × V)} (e : H a = some (.ins C dx fs)) (cl : Cls K C) (ha : PySem.W.findIn K (.ref C) "__class__" = some (some (.builtin "object.__class__")))
      (hn : PySem.W.specialIn K (.builtin "object.__class__") "__get__" = some (some (.builtin "getset_descriptor.__get__"))) (htk : PySem.W.takesIn K (.builtin "object.__class__") = some true)
      (hm : PySem.W.mroIn K C (.type "object") = some true) : TyOf K H (.ref a) (.ref C)
/-- isinstance(x, c) for one class c, a built-in or an own one: kitOne's answer -/
theorem isinst_ok {x : V} {u t : Value} (I : Inv X pins σ H s) (rx : RelV x u) (ty : TyOf X.K H x t) (e : PySem.W.kitOne X.K t c = some b) (h : ∀ tk, Q (.bool b) { s with toks := tk }) :
    wpAny (model X.prog X.w) A (call (.builtin "isinstance") [u, c]) Q E s := by
  cases ty with
  | non => cases (show u = Value.none from rx); exact PySem.W.kia_one PySem.W.kitx_none I.kIn True.intro e (fun z => nomatch z) h
  | bl y => cases (show u = Value.bool y from rx); exact PySem.W.kia_one PySem.W.kitx_bool I.kIn True.intro e (fun z => nomatch z) h
  | int i => obtain ⟨t, q⟩ := (show ∃ t, u = Value.int i t from rx); cases q; exact PySem.W.kia_one PySem.W.kitx_int I.kIn True.intro e (fun z => nomatch z) h
  | str y => obtain ⟨t, q⟩ := (show ∃ t, u = Value.str y t from rx); cases q; exact PySem.W.kia_one PySem.W.kitx_str I.kIn True.intro e (fun z => nomatch z) h
  | flt y => obtain ⟨t, q⟩ := (show ∃ t, u = Value.float y t from rx); cases q; exact PySem.W.kia_one PySem.W.kitx_float I.kIn True.intro e (fun z => nomatch z) h
  | @lst a xs ea =>
    cases (show u = Value.ref a from rx)
    obtain ⟨_, _, n, _, h1⟩ := (show ObjOk X.prog X.w H s.heap a (.lst xs) from I.hok a _ ea)
    exact PySem.W.kia_one PySem.W.kitx_list I.kIn ⟨_, h1, rfl⟩ e (fun z => nomatch z) h
  | @frz a ob xs ea =>
    cases (show u = Value.ref a from rx)
    obtain ⟨_, _, _, n, _, h1⟩ := (show ObjOk X.prog X.w H s.heap a (.frz ob (.lst xs)) from I.hok a _ ea)
    exact PySem.W.kia_one PySem.W.kitx_list I.kIn ⟨_, h1, rfl⟩ e (fun z => nomatch z) h
  | @tup a xs ea =>
    cases (show u = Value.ref a from rx)
    obtain ⟨_, _, _, p⟩ := (show ObjOk X.prog X.w H s.heap a (.tup xs) from I.hok a _ ea)
    obtain ⟨o, h1, h2, _⟩ := p
    exact PySem.W.kia_one PySem.W.kitx_tuple I.kIn ⟨o, h1, h2⟩ e (fun z => nomatch z) h
  | @dK a kvs ea =>
    cases (show u = Value.ref a from rx)
    obtain ⟨_, _, vs, _, p⟩ := (show ObjOk X.prog X.w H s.heap a (.dK kvs) from I.hok a _ ea)
    obtain ⟨o, es, ep, h1, h2, _⟩ := p
    exact PySem.W.kia_one PySem.W.kitx_dict I.kIn ⟨o, h1, h2.1⟩ e (fun z => nomatch z) h
  | @dT a kvs ea =>
    cases (show u = Value.ref a from rx)
    obtain ⟨_, _, xs, _, o, es, ep, h1, h2, _⟩ := (show ObjOk X.prog X.w H s.heap a (.dT kvs) from I.hok a _ ea)
    exact PySem.W.kia_one PySem.W.kitx_dict I.kIn ⟨o, h1, h2.1⟩ e (fun z => nomatch z) h
  | @ins a C dx fs ea cl ha hn htk hm =>
    cases (show u = Value.ref a from rx)
    obtain ⟨mA, O, _⟩ := ins_get I.hok ea
    obtain ⟨od, J, _⟩ := O.look
    exact PySem.W.kia_one (PySem.W.kitx_own (cl.get _) cl.hd ha hn htk hm) I.kIn J e (fun z => nomatch z) h
end
end L2

namespace L2
open PySem PySem.Spec PyProof.Rows

/-! ### room -/
structure Room (k : Nat) (A : Around) : Prop where
  hd : A.handled = none
  dp : A.depth + 3 * k + 5 < recursionLimit
  un : A.units + 16 * k + 200 < cLine
theorem Room.mono {j k : Nat} {A : Around} (r : Room k A) (h : j ≤ k) : Room j A := ⟨r.hd, by have := r.dp; omega, by have := r.un; omega⟩
theorem Room.deeper {k : Nat} {A : Around} (r : Room (k + 1) A) (env : Env) : Room k (A.deeper env) :=
  ⟨r.hd, by have := r.dp; show A.depth + 1 + 3 * k + 5 < _; omega, by have := r.un; show A.units + 3 + 16 * k + 200 < _; omega⟩
theorem Room.in1 {k : Nat} {A : Around} (r : Room (k + 1) A) : Room k A.in1 :=
  ⟨r.hd, by have := r.dp; show A.depth + 3 * k + 5 < _; omega, by have := r.un; show A.units + 1 + 16 * k + 200 < _; omega⟩
theorem Room.depth {k : Nat} {A : Around} (r : Room k A) : A.depth < recursionLimit := by have := r.dp; omega
theorem Room.units {k : Nat} {A : Around} (r : Room k A) : A.units + 64 < cLine := by have := r.un; omega
theorem Room.units0 {k : Nat} {A : Around} (r : Room k A) : A.units < cLine := by have := r.un; omega

/-! ### argument lists and displays -/
def tNil : TA := fun _ H Q => Q [] H
def tCons (ta : TE) (tr : TA) : TA := fun σ H Q => ta σ H fun x H1 => tr σ H1 fun xs H2 => Q (x :: xs) H2
section
variable {X : Cx} {e : Expr} {es : List Expr} {te : TE} {t : TA} {pos : Pos}
theorem pa_nil : PA X [] tNil := fun _ _ _ _ H Q I h => Calls.spliced_nil ⟨[], H, I, .nil, h⟩
theorem pa_cons (ha : PE X e te) (hr : PA X es t) (hs : starEach (e :: es) X.env = (false, eval e X.env) :: starEach es X.env := by rfl) : PA X (e :: es) (tCons te t) := by
  intro pos pins s σ H Q I h
  rw [hs]
  show wpAny _ _ (spliced ((false, eval e X.env) :: backTo pos (starEach es X.env))) _ _ s
  refine Calls.spliced_cons (thn (ha pins s σ H _ I h) fun u s1 ⟨x, H1, I1, r1, q1⟩ => ?_)
  exact thn (hr pos pins s1 σ H1 _ I1 q1) fun us s2 ⟨xs, H2, I2, r2, q2⟩ => ⟨x :: xs, H2, I2, .cons r1 r2, q2⟩

/-- a tuple, a list of written items -/
def tTup (t : TA) : TE := fun σ H Q => t σ H fun xs H1 => xs.length ≤ sizeLine ∧ ∀ p, H1 p = none → Q (.ref p) (upd H1 p (.tup xs))
def tLst (t : TA) : TE := fun σ H Q => t σ H fun xs H1 => xs.length ≤ sizeLine ∧ ∀ p, H1 p = none → Q (.ref p) (upd H1 p (.lst xs))
theorem pe_tup {x1} (h : PA X es t) : PE X (.Tuple es x1 pos) (tTup t) := by
  intro pins s σ H Q I hq
  refine wpAny_Tuple_spliced (thn (h pos pins s σ H _ I hq) fun us s1 ⟨xs, H1, I1, r, z, q⟩ => ⟨by rw [← r.length]; exact z, ?_⟩)
  have hf : H1 s1.heap.objs.size = none := I1.hok.fresh (Nat.le_refl _)
  refine ⟨.ref s1.heap.objs.size, upd H1 s1.heap.objs.size (.tup xs), I1.laid (t' := s1.toks) (fun b u e => Heap.get?_push_of_some _ e) (Nat.le_refl _) ?_, rfl, q _ hf⟩
  exact ⟨z, us, r, ⟨_, Heap.get?_push_size _ rfl, rfl, _, rfl⟩⟩
theorem pe_lst (h : PA X es t) : PE X (.List es pos) (tLst t) := by
  intro pins s σ H Q I hq
  refine wpAny_List_spliced (thn (h pos pins s σ H _ I hq) fun us s1 ⟨xs, H1, I1, r, z, q⟩ => ⟨by rw [← r.length]; exact z, ?_⟩)
  have hf : H1 s1.heap.objs.size = none := I1.hok.fresh (Nat.le_refl _)
  refine ⟨.ref s1.heap.objs.size, upd H1 s1.heap.objs.size (.lst xs), I1.laid (t' := s1.toks) (fun b u e => Heap.get?_push_of_some _ e) (Nat.le_refl _) ?_, rfl, q _ hf⟩
  exact ⟨z, us, 0, r, Heap.get?_push_size _ rfl⟩
end

/-! ### what a def promises -/
/-- a def's promise: the bound arguments in the parameters' order, the heap, the wanted end, the wanted exception -/
abbrev Sp := List V → Hp → VK → XK → Prop
/-- how an exception lies behind a call (file 08 gives it): the callers' frames, abstract heap and state ahead of the call, the wish, the exception, the state -/
abbrev CXT := List Env → Hp → Shared → XK → Value → Shared → Prop

/-- the state at a call -/
structure Env0 (P : Program) (w : World) (K : PySem.W.Frag) (mg : Str → Option Value) (base : Heap) (A : Around) (outer : List Env) (s : Shared) (H : Hp) : Prop where
  frames : A.frames = some outer
  mod : Mod K mg base
  bs : ∀ b o, base.get? b = some o → s.heap.get? b = some o ∧ H b = none
  bsz : base.objs.size ≤ s.heap.objs.size
  funs : s.heap.FunFrames base outer
  frf : ∀ b ∈ frs outer, H b = none
  hok : HOk P w H s.heap
  bare : AllBare s.gens
/-- a call's end -/
def CE (outer : List Env) (P : Program) (w : World) (H : Hp) (s : Shared) (Q : VK) (u : Value) (s' : Shared) : Prop :=
  ∃ v H', s'.os = s.os ∧ AllBare s'.gens ∧ Un (frs outer) [] H H' s.heap s'.heap ∧ HOk P w H' s'.heap ∧ RelV v u ∧ Q v H'
def CR (CX : CXT) (outer : List Env) (P : Program) (w : World) (H : Hp) (s : Shared) (Q : VK) (E : XK) (r : Result) (s' : Shared) : Prop :=
  match r with
  | .ok (.ret u) => CE outer P w H s Q u s'
  | .ok _ => False
  | .error e => CX outer H s E e s'
structure FnOk (P : Program) (w : World) (K : PySem.W.Frag) (mg : Str → Option Value) (base : Heap) (CX : CXT) (k : Nat) (f : Addr) (fd : FuncData) (ps : List Str) (sp : Sp) : Prop where
  len : ∀ vs H Q E, sp vs H Q E → vs.length = ps.length
  run : ∀ (A : Around) (outer : List Env) (s : Shared) (H : Hp) (args : Args) (us : List Value) (vs : List V) (Q : VK) (E : XK), Room k A → Env0 P w K mg base A outer s H → BindsTo s fd args (ps.zip us) → Vals vs us → sp vs H Q E →
    codeAny (model P w) A (.call (.ref f) args) (CR CX outer P w H s Q E) s
theorem FnOk.mono {P : Program} {w : World} {K : PySem.W.Frag} {mg : Str → Option Value} {base : Heap} {CX : CXT} {j k : Nat} {f : Addr} {fd : FuncData} {ps : List Str} {sp : Sp} (F : FnOk P w K mg base CX j f fd ps sp) (h : j ≤ k) :
    FnOk P w K mg base CX k f fd ps sp := ⟨F.len, fun A outer s H args us vs Q E hr => F.run A outer s H args us vs Q E (hr.mono h)⟩
/-- a weaker promise -/
theorem FnOk.imp {P : Program} {w : World} {K : PySem.W.Frag} {mg : Str → Option Value} {base : Heap} {CX : CXT} {k : Nat} {f : Addr} {fd : FuncData} {ps : List Str} {sp sp' : Sp} (F : FnOk P w K mg base CX k f fd ps sp)
    (h : ∀ vs H Q E, sp' vs H Q E → sp vs H Q E) : FnOk P w K mg base CX k f fd ps sp' :=
  ⟨fun vs H Q E q => F.len vs H Q E (h _ _ _ _ q), fun A outer s H args us vs Q E hr he hb hv hs => F.run A outer s H args us vs Q E hr he hb hv (h _ _ _ _ hs)⟩

theorem Env0.in1 {P : Program} {w : World} {K : PySem.W.Frag} {mg : Str → Option Value} {base : Heap} {A : Around} {outer : List Env} {s : Shared} {H : Hp} (e : Env0 P w K mg base A outer s H) :
    Env0 P w K mg base A.in1 outer s H := ⟨e.frames, e.mod, e.bs, e.bsz, e.funs, e.frf, e.hok, e.bare⟩

section
variable {X : Cx} {pins : List (Addr × Obj)} {σ : St} {H : Hp} {s s' : Shared}
/-- from a body: what a callee wants -/
theorem Inv.env0 (I : Inv X pins σ H s) : Env0 X.prog X.w X.K X.mg X.base X.A X.stack s H :=
  ⟨I.ok.frames, I.ok.mod, I.bs, Nat.le_trans I.ok.bsz I.sz, I.stack, I.stkFree, I.hok, I.bare⟩
/-- behind a call -/
theorem Inv.after {Q : VK} {u : Value} (I : Inv X pins σ H s) (h : CE X.stack X.prog X.w H s Q u s') : EP X pins σ Q u s' := by
  obtain ⟨v, H', os, bare, un, hok, r, q⟩ := h
  obtain ⟨hh, g, d, t, os'⟩ := s'
  obtain rfl : os' = s.os := os
  exact ⟨v, H', I.call (h' := hh) (g' := g) (d' := d) (t' := t) (ch := []) un hok bare (fun b z => absurd z (by simp)), r, q⟩
end

/-! ### calls -/
/-- f(..): the written arguments, then the defaults dvs; E: what is wanted of an exception -/
def tCall (sp : Sp) (dvs : List V) (E : XK) (t : TA) : TE := fun σ H Q => t σ H fun vs H1 => sp (vs ++ dvs) H1 Q E
/-- how the parameters are bound: us the positional arguments, kw the keywords' values by name, ds the defaults that fill up -/
def Binds (K : PySem.W.Frag) (fd : FuncData) (ps : List Str) (ds : List Value) : Prop :=
  ∀ (s : Shared) (us : List Value), K.In s.heap → (us ++ ds).length = ps.length → BindsTo s fd ⟨us, []⟩ (ps.zip (us ++ ds))
/-- every parameter is given -/
theorem Binds.all {K : PySem.W.Frag} {fd : FuncData} {ps : List Str} (h : ∀ us : List Value, us.length = ps.length → bindArgs fd ⟨us, []⟩ = pure (ps.zip us)) : Binds K fd ps [] := fun s us _ hl => by
  rw [List.append_nil] at hl ⊢
  exact .of_eq (h us hl)

/-- an exception of a callee reaches what this body wants of exceptions -/
def Passes (CX : CXT) (X : Cx) (E : XK) : Prop := ∀ (pins : List (Addr × Obj)) (σ : St) (H : Hp) (s : Shared) (e : Value) (s' : Shared), Inv X pins σ H s → CX X.stack H s E e s' → X.xe e s'

section
variable {X : Cx} {CX : CXT} {k : Nat} {f C : Addr} {fd : FuncData} {ps : List Str} {sp : Sp} {dvs : List V} {ds : List Value} {E : XK} {x m : Str} {p pos apos : Pos} {e o : Expr} {es : List Expr} {ta : TE} {t : TA}

/-- the callee runs -/
theorem run_fn {pins : List (Addr × Obj)} {σ : St} {H : Hp} {s : Shared} {Q : VK} {us : List Value} {vs : List V} (F : FnOk X.prog X.w X.K X.mg X.base CX k f fd ps sp) (hr : Room k X.A) (hb : Binds X.K fd ps ds) (hd : Vals dvs ds) (hx : Passes CX X E)
    (I : Inv X pins σ H s) (r : Vals vs us) (h : sp (vs ++ dvs) H Q E) : wpAny (model X.prog X.w) X.A (call (.ref f) us) (EP X pins σ Q) X.xe s := by
  have r2 : Vals (vs ++ dvs) (us ++ ds) := r.append hd
  have hl : (us ++ ds).length = ps.length := by rw [← r2.length]; exact F.len _ _ _ _ h
  refine wpAny_call (codeAny_mono (F.run X.A X.stack s H ⟨us, []⟩ (us ++ ds) (vs ++ dvs) Q E hr I.env0 (hb s us I.kIn hl) r2 h) fun r s' hq => ?_)
  cases r with
  | error e => exact hx pins σ H s e s' I hq
  | ok fl =>
    cases fl with
    | ret u => exact I.after hq
    | next => exact False.elim hq
    | brk => exact False.elim hq
    | cont => exact False.elim hq

theorem pe_call (F : FnOk X.prog X.w X.K X.mg X.base CX k f fd ps sp) (hr : Room k X.A) (hg : Gl X x) (hm : X.mg x = some (.ref f)) (hk : PySem.W.keepIn X.K (.ref f) = true) (hb : Binds X.K fd ps ds) (hd : Vals dvs ds) (hx : Passes CX X E)
    (ha : PA X (e :: es) t) (hdb : (x == ("__debug__" : Str)) = false := by decide) (he : starEach (e :: es) X.env = (false, eval e X.env) :: starEach es X.env := by rfl) (hpl : (backTo pos (starEach es X.env)).any (·.1) = false := by rfl) :
    PE X (.Call (.Name x p) (e :: es) [] pos) (tCall sp dvs E t) := by
  intro pins s σ H Q I h
  refine wpAny_Call_Name_kw (ld_glob I hg hm ?_ hdb)
  refine PySem.W.callWith_K (h₀ := X.base) I.ok.mod.kin hk (thn (ha pos pins s σ H _ I h) fun us s1 ⟨vs, H1, I1, r, q⟩ => ⟨I1.kIn, ?_⟩) he hpl
  exact run_fn F hr hb hd hx I1 r q
/-- what a class must have to be made -/
structure Mk (K : PySem.W.Frag) (C f : Addr) : Prop where
  makes : PySem.W.makesIn K C = true
  init : PySem.W.findIn K (.ref C) "__init__" = some (some (.ref f))
  fn : PySem.W.isFn K (.ref f) = true
  kp : PySem.W.keepIn K (.ref C) = true

end

/-! ### keywords -/
section
variable {X : Cx} {CX : CXT} {k : Nat} {f C : Addr} {fd : FuncData} {ps ks : List Str} {sp : Sp} {E : XK} {x m : Str} {p pos apos kpos : Pos} {e o : Expr} {es : List Expr} {kws : List Keyword} {te ta : TE} {t tk : TA} {nm : Option Str}
/-- how a call with keywords binds: g puts the positional values us and the keywords' values ws (names ks) in the parameters' order, defaults among them -/
structure KBinds (K : PySem.W.Frag) (fd : FuncData) (ps ks : List Str) (g : List Value → List Value → List Value) (gV : List V → List V → List V) : Prop where
  to : ∀ (s : Shared) (us ws : List Value), K.In s.heap → (g us ws).length = ps.length → BindsTo s fd ⟨us, ks.zip ws⟩ (ps.zip (g us ws))
  rel : ∀ {vs : List V} {us : List Value} {zs : List V} {ws : List Value}, Vals vs us → Vals zs ws → Vals (gV vs zs) (g us ws)
variable {g : List Value → List Value → List Value} {gV : List V → List V → List V}
end

/-! ### a def's body keeps its promise -/
/-- names: the parameters first -/
structure FnScope (N P : List Str) (sc : Scope) : Prop where
  kind : sc.kind = .function
  co : sc.isCoroutine = false
  gen : sc.isGenerator = false
  nd : N.Nodup
  pre : N.take P.length = P
  par : ∀ x ∈ P, sc.names.lookup x = some .local ∨ sc.names.lookup x = some .cell
  nofree : ∀ y ∈ sc.names, y.2 ≠ .free

theorem bindL_out {kindOf : Str → Option NameKind} {x : Str} : ∀ {binds : List (Str × Value)} {m : Str → Option Value}, (∀ v, (x, v) ∉ binds) → bindL kindOf binds m x = m x
  | [], _, _ => rfl
  | (n, v) :: r, m, h => by
    unfold bindL
    rw [bindL_out fun w hw => h w (List.mem_cons_of_mem _ hw)]
    split
    · have : x ≠ n := by rintro rfl; exact h v List.mem_cons_self
      simp [this]
    · rfl
theorem bindC_out {kindOf : Str → Option NameKind} {x : Str} : ∀ {binds : List (Str × Value)} {m : Str → Option Value}, (∀ v, (x, v) ∉ binds) → bindC kindOf binds m x = m x
  | [], _, _ => rfl
  | (n, v) :: r, m, h => by
    unfold bindC
    rw [bindC_out fun w hw => h w (List.mem_cons_of_mem _ hw)]
    split
    · rfl
    · have : x ≠ n := by rintro rfl; exact h v List.mem_cons_self
      simp [this]
theorem bindL_get {kindOf : Str → Option NameKind} {x : Str} {v : Value} : ∀ {P : List Str} {vs : List Value} {i : Nat} {m : Str → Option Value}, P.Nodup → P[i]? = some x → vs[i]? = some v → kindOf x = some .local →
    bindL kindOf (P.zip vs) m x = some v
  | [], _, _, _, _, h, _, _ => by simp at h
  | _ :: _, [], _, _, _, _, h, _ => by simp at h
  | p :: P, w :: vs, 0, m, nd, h1, h2, hk => by
    simp at h1 h2; subst h1; subst h2
    show bindL kindOf ((p, w) :: P.zip vs) m p = _
    unfold bindL
    rw [bindL_out fun v hv => (List.nodup_cons.mp nd).1 (List.of_mem_zip hv).1, if_pos hk]
    simp
  | p :: P, w :: vs, i + 1, m, nd, h1, h2, hk => by
    show bindL kindOf ((p, w) :: P.zip vs) m x = _
    unfold bindL
    exact bindL_get (i := i) (List.nodup_cons.mp nd).2 (by simpa using h1) (by simpa using h2) hk
theorem bindC_get {kindOf : Str → Option NameKind} {x : Str} {v : Value} : ∀ {P : List Str} {vs : List Value} {i : Nat} {m : Str → Option Value}, P.Nodup → P[i]? = some x → vs[i]? = some v → kindOf x ≠ some .local →
    bindC kindOf (P.zip vs) m x = some v
  | [], _, _, _, _, h, _, _ => by simp at h
  | _ :: _, [], _, _, _, _, h, _ => by simp at h
  | p :: P, w :: vs, 0, m, nd, h1, h2, hk => by
    simp at h1 h2; subst h1; subst h2
    show bindC kindOf ((p, w) :: P.zip vs) m p = _
    unfold bindC
    rw [bindC_out fun v hv => (List.nodup_cons.mp nd).1 (List.of_mem_zip hv).1, if_neg hk]
    simp
  | p :: P, w :: vs, i + 1, m, nd, h1, h2, hk => by
    show bindC kindOf ((p, w) :: P.zip vs) m x = _
    unfold bindC
    exact bindC_get (i := i) (List.nodup_cons.mp nd).2 (by simpa using h1) (by simpa using h2) hk

/-- the names' values at the entry -/
def start (N : List Str) (vs : List V) : St := vs.map some ++ List.replicate (N.length - vs.length) none

/-- the context of a def's body, at its entry; an exception leaves the frame, then lies as CX says -/
def cxOf (CX : CXT) (P : Program) (w : World) (K : PySem.W.Frag) (mg : Str → Option Value) (base : Heap) (N : List Str) (qual : Str) (scope : Scope) (f : Addr) (cd : Value) (A : Around) (outer : List Env) (s : Shared) (H : Hp) (E : XK) : Cx where
  prog := P
  w := w
  K := K
  mg := mg
  base := base
  A := A.deeper (envOfC qual scope s.heap.objs.size f cd)
  N := N
  s₀ := s
  H₀ := H
  env := envOfC qual scope s.heap.objs.size f cd
  outer := outer
  stack := envOfC qual scope s.heap.objs.size f cd :: outer
  ex := []
  calm := true
  fn := fun _ => true
  pn := []
  xe := fun e s' => wpAny (model P w) (A.deeper (envOfC qual scope s.heap.objs.size f cd)) (leaving (envOfC qual scope s.heap.objs.size f cd) e) (fun _ s'' => CX outer H s E e s'') (fun e' s'' => CX outer H s E e' s'') s'

theorem cell_has {sc : Scope} {n : Nat} {x : Str} (h : sc.names.lookup x = some .cell) : ∃ c, (cellsFrom n sc.names []).lookup x = some c := by
  have q := PySem.W.cellsFrom_some sc.names n [] (.inl h)
  exact Option.isSome_iff_exists.mp q

theorem inv_start {CX : CXT} {P : Program} {w : World} {K : PySem.W.Frag} {mg : Str → Option Value} {base : Heap} {N ps : List Str} {qual : Str} {scope : Scope} {f : Addr} {cd : Value} {A : Around} {outer : List Env} {s s1 : Shared} {H : Hp} {E : XK} {us : List Value} {vs : List V}
    (S : FnScope N ps scope) (hd : A.handled = none) (e0 : Env0 P w K mg base A outer s H) (hl : vs.length = ps.length) (r : Vals vs us)
    (x : InCallC s s.heap.objs.size (bindL (envOfC qual scope s.heap.objs.size f cd).kindOf (ps.zip us) fun _ => none) (cellsFrom (s.heap.objs.size + 1) scope.names []) (bindC (envOfC qual scope s.heap.objs.size f cd).kindOf (ps.zip us) fun _ => none) s1) :
    Inv (cxOf CX P w K mg base N qual scope f cd A outer s H E) [] (start N vs) H s1 := by
  have hpl : ps.length ≤ N.length := by have := congrArg List.length S.pre; rw [List.length_take] at this; omega
  obtain ⟨h1, tk, rfl, hk⟩ := x.done
  have noA : ∀ b : Addr, b ∉ (cxOf CX P w K mg base N qual scope f cd A outer s H E).ex := fun b z => absurd (show b ∈ ([] : List Addr) from z) (by simp)
  refine ⟨⟨e0.mod, S.kind, rfl, rfl, Nat.le_refl _, fun y z c h1 h2 => ?_, fun y hy => ?_, fun y c _ h => ?_, fun _ => hd, Around.frames_deeper e0.frames, .inr ⟨rfl, rfl⟩, fun b z => absurd z (noA b), e0.bs, e0.bsz, fun b _ _ => noA b, fun b z => absurd z (noA b), e0.funs, e0.frf⟩,
    rfl, e0.bare, Un.kept hk, ⟨_, x.toInCall.ns, fun i y v h1 h2 h3 => ?_⟩, fun y c h => ⟨_, x.cell y c h⟩, e0.hok.fresh (Nat.le_refl _), fun y c h => ?_, fun p hp => absurd (show p ∈ ([] : List (Addr × Obj)) from hp) (by simp), e0.hok.kept hk, ?_⟩
  · exact name_of_addr x.apart (PySem.mem_of_lookup h1) (PySem.mem_of_lookup h2)
  · have hy : scope.names.lookup y = some .cell ∨ scope.names.lookup y = some .free := hy
    rcases hy with hy | hy
    · exact cell_has hy
    · exact absurd rfl (S.nofree _ (PySem.mem_of_lookup hy))
  · exact Nat.le_of_lt (x.above y c (PySem.mem_of_lookup h))
  · have hi : i < vs.length := by
      unfold start at h2
      by_cases hi : i < vs.length
      · exact hi
      · rw [List.getElem?_append_right (by simpa using hi)] at h2
        rw [List.getElem?_replicate] at h2
        split at h2 <;> cases h2
    have ha : vs[i]? = some v := by
      unfold start at h2
      rw [List.getElem?_append_left (by simpa using hi), List.getElem?_map] at h2
      cases e : vs[i]? with
      | none => rw [e] at h2; cases h2
      | some a => rw [e] at h2; cases h2; rfl
    obtain ⟨u, hu, rv⟩ := r.get ha
    have hp : ps[i]? = some y := by
      rw [← S.pre, List.getElem?_take_of_lt (by omega)]; exact h1
    have ndP : ps.Nodup := by rw [← S.pre]; exact S.nd.sublist (List.take_sublist _ _)
    refine ⟨u, rv, ?_⟩
    rcases S.par y (List.mem_of_getElem? hp) with k | k
    · exact .inl ⟨k, bindL_get ndP hp hu k⟩
    · obtain ⟨c, e⟩ := cell_has (n := s.heap.objs.size + 1) k
      refine .inr ⟨.inl k, c, e, ?_⟩
      have q := x.cell y c e
      rw [bindC_get ndP hp hu (by show scope.names.lookup y ≠ _; rw [k]; decide)] at q
      exact q
  · exact e0.hok.fresh (Nat.le_of_lt (x.above y c (PySem.mem_of_lookup h)))
  · unfold start
    show _ = N.length
    rw [List.length_append, List.length_map, List.length_replicate]
    omega

/-- THE RULE: a def (or a method) of the text, by its body. The body's reading t is chosen for each entry; it is run at the parameters' values -/
theorem fn_of {CX : CXT} {P : Program} {w : World} {K : PySem.W.Frag} {mg : Str → Option Value} {base : Heap} {k : Nat} {f : Addr} {name qual : Str} {params : Arguments} {body : List Stmt} {scope : Scope} {dV kV doc pm cdv ct oc : Value} {an od : Option Addr}
    {osl : Array (Option Value)} {N ps : List Str} {sp : Sp} (lk : K.lookup f = some ⟨oc, od, .func (PySem.W.fnOf name qual params body scope dV kV doc pm an cdv ct), osl⟩) (hcd : PySem.W.codeIn K cdv qual = true) (S : FnScope N ps scope)
    (len : ∀ vs H Q E, sp vs H Q E → vs.length = ps.length)
    (hbody : ∀ (A : Around) (outer : List Env) (s : Shared) (H : Hp) (vs : List V) (Q : VK) (E : XK), Room k (A.deeper (envOfC qual scope s.heap.objs.size f cdv)) → sp vs H Q E →
      ∃ t, PSs (cxOf CX P w K mg base N qual scope f cdv A outer s H E) body t ∧ t { nx := fun _ H' => Q .non H', rt := Q } (start N vs) H) :
    FnOk P w K mg base CX (k + 1) f (PySem.W.fnOf name qual params body scope dV kV doc pm an cdv ct) ps sp := by
  refine ⟨len, fun A outer s H args us vs Q E hr e0 hb r hsp => ?_⟩
  have hl := len _ _ _ _ hsp
  have KX : K.In s.heap := e0.mod.kin.keeps fun b o e => (e0.bs b o e).1
  have lim : s.heap.NoLimit := e0.mod.nolimit.keeps fun b o e => (e0.bs b o e).1
  have hkind : ∀ y ∈ ps.zip us, scope.names.lookup y.1 = some .local ∨ (scope.names.lookup y.1 = some .cell ∧ ((cellsFrom (s.heap.objs.size + 1) scope.names []).lookup y.1).isSome = true) := fun ⟨n, v⟩ hy => by
    rcases S.par n (List.of_mem_zip hy).1 with q | q
    · exact .inl q
    · exact .inr ⟨q, PySem.W.cellsFrom_some _ _ _ (.inl q)⟩
  refine codeAny_call_function hr.depth (KX _ _ lk) rfl S.co S.gen rfl (PySem.W.codeRec_of KX hcd) (hb _ _ _ _ ?_)
  refine wpAny_newFunctionEnv_cells S.kind hkind fun env he s1 x => ?_
  subst he
  refine ⟨lim.keeps x.toInCall.keep, codeAny_func ?_⟩
  obtain ⟨t, ht, hq⟩ := hbody A outer s H vs Q E (hr.deeper _) hsp
  have I : Inv (cxOf CX P w K mg base N qual scope f cdv A outer s H E) [] (start N vs) H s1 := inv_start S hr.hd e0 hl r x
  refine wpAny_mono (ht [] s1 (start N vs) H _ I hq) (fun fl s' hs => ?_) fun e s' hs => hs
  have fin : ∀ {σ' : St} {H' : Hp} {v : V} {u : Value}, Inv (cxOf CX P w K mg base N qual scope f cdv A outer s H E) [] σ' H' s' → RelV v u → Q v H' → CE outer P w H s Q u s' :=
    fun {σ' H' v u} J rv q => ⟨v, H', J.os, J.bare, J.base, J.hok, rv, q⟩
  cases fl with
  | ret u =>
    obtain ⟨v, σ', H', J, rv, q⟩ := hs
    exact fin J rv q
  | next =>
    obtain ⟨σ', H', J, q⟩ := hs
    exact fin (v := V.non) (u := Value.none) J rfl q
  | brk =>
    obtain ⟨_, _, _, q⟩ := hs
    exact False.elim q
  | cont =>
    obtain ⟨_, _, _, q⟩ := hs
    exact False.elim q
end L2

namespace L2
open PySem PySem.Spec PyProof.Rows
section
variable {X : Cx} {x : Str} {p pos : Pos} {e : Expr} {es : List Expr} {t : TA} {id T : String} {r : List V → Hp → VK → Prop}

def tCB (r : List V → Hp → VK → Prop) (t : TA) : TE := fun σ H Q => t σ H fun vs H1 => r vs H1 Q
/-- f(e, ..), f a built-in function -/
theorem pe_callB (hc : CallR X (.builtin id) r) (hg : Gl X x) (hm : X.mg x = none) (hv : bootBuiltins x = some (.builtin id)) (ha : PA X (e :: es) t) (hn : x ≠ "__name__" := by decide) (hdb : (x == ("__debug__" : Str)) = false := by decide)
    (he : starEach (e :: es) X.env = (false, eval e X.env) :: starEach es X.env := by rfl) (hpl : (backTo pos (starEach es X.env)).any (·.1) = false := by rfl) : PE X (.Call (.Name x p) (e :: es) [] pos) (tCB r t) := by
  intro pins s σ H Q I h
  refine wpAny_Call_Name_kw (ld_blt I hg hm hv ?_ hn hdb)
  exact PyProof.Rows.callWith_builtin1 (thn (ha pos pins s σ H _ I h) fun us s1 ⟨vs, H1, I1, r1, q1⟩ => hc pins s1 σ H1 vs us Q I1 r1 q1) he hpl
/-- T(e, ..), T a built-in type -/
theorem pe_callTy (hc : CallR X (.type T) r) (hg : Gl X x) (hm : X.mg x = none) (hv : bootBuiltins x = some (.type T)) (ha : PA X (e :: es) t) (hn : x ≠ "__name__" := by decide) (hdb : (x == ("__debug__" : Str)) = false := by decide)
    (he : starEach (e :: es) X.env = (false, eval e X.env) :: starEach es X.env := by rfl) (hpl : (backTo pos (starEach es X.env)).any (·.1) = false := by rfl) : PE X (.Call (.Name x p) (e :: es) [] pos) (tCB r t) := by
  intro pins s σ H Q I h
  refine wpAny_Call_Name_kw (ld_blt I hg hm hv ?_ hn hdb)
  exact PyProof.Rows.callWith_type1 (thn (ha pos pins s σ H _ I h) fun us s1 ⟨vs, H1, I1, r1, q1⟩ => hc pins s1 σ H1 vs us Q I1 r1 q1) he hpl
end
end L2

namespace HT
open PySem PyProof.Rows

section
open PySem.SeqAt
open PySem.AutoSeq1 (wpAny_loadPart')
open PySem.MeetsSeq PySem.MeetsSeq2 PySem.MeetsSeq3

end

section
variable {prog : Program} {w : World} {A : Around} {E : Value → Shared → Prop} {s : Shared}

/-- t + u, t not empty -/
theorem cat_tup {t b : Addr} {vs ws : List Value} {Q : Value → Shared → Prop} (ht : IsTup s.heap t vs.toArray) (hb : IsTup s.heap b ws.toArray) (hv : vs ≠ [])
    (h1 : ws = [] → Q (.ref t) s) (h2 : ws ≠ [] → Q (.ref s.heap.objs.size) { s with heap := s.heap.push { cls := .type "tuple", data := .seq (vs ++ ws).toArray } })
    (hsz : vs.length + ws.length ≤ sizeLine) : wpAny (model prog w) A (binaryOp .Add (.ref t) (.ref b)) Q E s := by
  obtain ⟨⟨cls, dd, data, sl⟩, ho, hc, n, hd⟩ := id ht
  obtain ⟨⟨cls2, dd2, data2, sl2⟩, ho2, hc2, n2, hd2⟩ := id hb
  simp only at hc hd hc2 hd2
  subst hc hd hc2 hd2
  have e : vs.toArray ++ ws.toArray = (vs ++ ws).toArray := by simp
  by_cases hw : ws = []
  · exact concat_meets ⟨_, ho, rfl⟩ ⟨_, ho2, rfl⟩ noFill_tuple_add seq_tuple_add PySem.F.slot_tuple_add PySem.F.entry_tuple_add (PySem.F.args_tuple_add_2 _ _)
      (tuple_addW1 t b vs.toArray ws.toArray n n2 dd dd2 sl sl2 (by simpa using hv) (by simp [hw])) ⟨ho, ho2, h1 hw⟩
  · refine concat_meets ⟨_, ho, rfl⟩ ⟨_, ho2, rfl⟩ noFill_tuple_add seq_tuple_add PySem.F.slot_tuple_add PySem.F.entry_tuple_add (PySem.F.args_tuple_add_2 _ _)
      (tuple_addW2 t b vs.toArray ws.toArray n n2 dd dd2 sl sl2 (by simpa using hv) (by simpa using hw) (by rw [List.size_toArray, List.size_toArray]; exact hsz)) ⟨ho, ho2, ?_⟩
    rw [e]
    exact h2 hw

/-! ### t[a:b], not the whole -/
/-- a slice's bound as a place among n (d where it is left out) -/
def sIx (n d : Nat) : Option Int → Nat
  | none => d
  | some v => if v < 0 then (v + (n : Int)).toNat else min v.toNat n
theorem sIx_none (n d : Nat) : sIx n d none = d := rfl
theorem sIx_nat (n d k : Nat) : sIx n d (some (k : Int)) = min k n := by
  show (if (k : Int) < 0 then ((k : Int) + (n : Int)).toNat else min (k : Int).toNat n) = min k n
  rw [if_neg (by omega), Int.toNat_natCast]
theorem sIx_le (n d : Nat) (hd : d ≤ n) (o : Option Int) : sIx n d o ≤ n := by
  cases o with
  | none => exact hd
  | some v =>
    show (if v < 0 then (v + (n : Int)).toNat else min v.toNat n) ≤ n
    by_cases hv : v < 0
    · rw [if_pos hv]; omega
    · rw [if_neg hv]; exact Nat.min_le_right _ _
theorem clip_eq (v : Int) (n d : Nat) : (if v < 0 then max (v + (n : Int)) 0 else min v (n : Int)) = ((sIx n d (some v) : Nat) : Int) := by
  show (if v < 0 then max (v + (n : Int)) 0 else min v (n : Int)) = (((if v < 0 then (v + (n : Int)).toNat else min v.toNat n) : Nat) : Int)
  by_cases hv : v < 0
  · simp only [if_pos hv]; omega
  · simp only [if_neg hv]; omega
theorem adjust_gen (lo hi : Option Int) (n : Nat) : Builtin.Slice.sliceAdjust lo hi 1 (n : Int) = (((sIx n 0 lo : Nat) : Int), ((sIx n n hi : Nat) : Int)) := by
  have h1 : ¬ ((1 : Int) < 0) := by omega
  unfold Builtin.Slice.sliceAdjust
  simp only [h1, if_false]
  refine Prod.ext ?_ ?_
  · cases lo with
    | none => rfl
    | some v => exact clip_eq v n 0
  · cases hi with
    | none => rfl
    | some v => exact clip_eq v n n
theorem places_gen (i j : Nat) : Builtin.Slice.slicePlaces (i : Int) (j : Int) 1 = j - i := by
  unfold Builtin.Slice.slicePlaces
  have h1 : (1 : Int) > 0 := by omega
  simp only [h1, if_true, Int.ediv_one]
  split <;> omega
theorem slicePart_ {v : Value} {o : Option Int} {Q : Option Int → Shared → Prop} (p : IsPart v o) (h : Q o s) : wpAny (model prog w) A (Builtin.Slice.slicePartIndex v) Q E s := by
  cases p with
  | none => exact slicePart_none h
  | int i t => exact slicePart_int h
theorem sliceApplied_gen {sl : Addr} {vl vu : Value} {lo hi : Option Int} {n : Nat} {Q : Int × Int × Nat → Shared → Prop} (hs : s.heap.IsSliceOf sl vl vu .none) (pl : IsPart vl lo) (pu : IsPart vu hi)
    (h : Q (((sIx n 0 lo : Nat) : Int), 1, sIx n n hi - sIx n 0 lo) s) : wpAny (model prog w) A (Builtin.Slice.sliceApplied (.ref sl) (pure (n : Int))) Q E s := by
  obtain ⟨os, hos, hcs, hds⟩ := id hs
  unfold Builtin.Slice.sliceApplied Builtin.Slice.sliceFields
  refine wpAny_bind (wpAny_bind (wpAny_field hos hds (x := vl) rfl (wpAny_bind (wpAny_field hos hds (x := vu) rfl (wpAny_bind (wpAny_field hos hds (x := .none) rfl (wpAny_pure ?_)))))))
  refine wpAny_bind (slicePart_none ?_)
  show wpAny _ _ (if ((1 : Int) == 0) = true then _ else _) _ _ s
  rw [if_neg (by decide)]
  refine wpAny_bind (slicePart_ pl (wpAny_bind (slicePart_ pu (wpAny_bind (wpAny_pure ?_)))))
  show wpAny _ _ (match Builtin.Slice.sliceAdjust lo hi 1 (n : Int) with | (lo, hi) => pure (lo, (1 : Int), Builtin.Slice.slicePlaces lo hi 1)) _ _ s
  rw [adjust_gen lo hi n]
  show wpAny _ _ (pure (((sIx n 0 lo : Nat) : Int), (1 : Int), Builtin.Slice.slicePlaces ((sIx n 0 lo : Nat) : Int) ((sIx n n hi : Nat) : Int) 1)) _ _ s
  rw [places_gen]
  exact wpAny_pure h
theorem pick_gen (xs : Array Value) (i k : Nat) : ((List.range k).filterMap fun (m : Nat) => xs[((i : Int) + (m : Int) * 1).toNat]?).toArray = ((xs.toList.drop i).take k).toArray := by
  have e : (fun (m : Nat) => xs[((i : Int) + (m : Int) * 1).toNat]?) = fun m => xs[i + m]? := by
    funext m
    have : ((i : Int) + (m : Int) * 1).toNat = i + m := by omega
    rw [this]
  rw [e]
  have := pick_run xs i k
  rw [List.filterMap_map] at this
  have e2 : ((fun x => xs[x]?) ∘ fun x => i + x) = fun m => xs[i + m]? := rfl
  rw [e2] at this
  rw [this]

theorem getItem_tuple_cut {t sl : Addr} {items : Array Value} {vl vu : Value} {lo hi : Option Int} {Q : Value → Shared → Prop} (ht : IsTup s.heap t items) (hs : s.heap.IsSliceOf sl vl vu .none) (pl : IsPart vl lo) (pu : IsPart vu hi)
    (hw : ¬ (sIx items.size 0 lo = 0 ∧ sIx items.size items.size hi = items.size))
    (h : Q (.ref s.heap.objs.size) { s with heap := s.heap.push { cls := .type "tuple", data := .seq ((items.toList.drop (sIx items.size 0 lo)).take (sIx items.size items.size hi - sIx items.size 0 lo)).toArray } })
    (hsz : items.size ≤ sizeLine) : wpAny (model prog w) A (getItem (.ref t) (.ref sl)) Q E s := by
  have htake : sizeOk (.seq ((items.toList.drop (sIx items.size 0 lo)).take (sIx items.size items.size hi - sIx items.size 0 lo)).toArray) := by
    show ((items.toList.drop (sIx items.size 0 lo)).take (sIx items.size items.size hi - sIx items.size 0 lo)).toArray.size ≤ sizeLine
    rw [List.size_toArray, List.length_take, List.length_drop, Array.length_toList]
    omega
  have hj : sIx items.size items.size hi ≤ items.size := sIx_le _ _ (Nat.le_refl _) hi
  obtain ⟨os, hos, hcs, hds⟩ := id hs
  have hTs : s.TypeIs (.ref sl) "slice" := ⟨os, hos, hcs⟩
  unfold getItem
  try with_reducible refine wpAny_holding ?_
  first | refine wpAny_bind (wpAny_pure ?_) | skip
  refine wpAny_bind (wpAny_sequenceKey ht.typeIs (by decide) ?_)
  refine wpAny_bind (wpAny_callSpecial?_slot (name := Str.ofString "__getitem__") ht.typeIs PyProof.Rows.slot_tuple_getitem
    (wpAny_call_entry PyProof.Rows.slot_tuple_getitem ht.typeIs entry_tuple_getitem ?_ (args_tuple_getitem _ _)))
  show wpAny _ _ (Builtin.Tuple.tupleItemsOf (.ref t) >>= _) _ _ s
  refine wpAny_bind (tupleItemsOf_ ht ?_)
  refine wpAny_bind (wpAny_typeOf hTs ?_)
  rw [if_pos (by decide)]
  refine wpAny_bind (sliceApplied_gen hs pl pu ?_)
  have hno : ¬ ((((sIx items.size 0 lo : Nat) : Int) == 0 && (1 : Int) == 1 && (sIx items.size items.size hi - sIx items.size 0 lo) == items.size) = true) := by
    intro q
    rw [Bool.and_eq_true, Bool.and_eq_true] at q
    have q1 : ((sIx items.size 0 lo : Nat) : Int) = 0 := eq_of_beq q.1.1
    have q2 : sIx items.size items.size hi - sIx items.size 0 lo = items.size := eq_of_beq q.2
    exact hw ⟨by omega, by omega⟩
  show wpAny _ _ (if (((sIx items.size 0 lo : Nat) : Int) == 0 && (1 : Int) == 1 && (sIx items.size items.size hi - sIx items.size 0 lo) == items.size) = true then _ else _) _ _ s
  rw [if_neg hno, pick_gen]
  first
    | exact wpAny_bind (m := Builtin.Tuple.tupleExact _) (wpAny_newObj_type (wpAny_pure ⟨_, rfl, wpAny_pure h⟩) htake)
    | exact wpAny_bind (m := Builtin.Tuple.tupleExact _) (wpAny_newObj_type (wpAny_bind (wpAny_pure (wpAny_pure ⟨_, rfl, wpAny_pure h⟩))) htake)
    | exact wpAny_bind (wpAny_bind (m := Builtin.Tuple.tupleExact _) (wpAny_newObj_type (wpAny_pure (wpAny_pure ⟨_, rfl, wpAny_pure h⟩)) htake))
    | exact wpAny_bind (wpAny_bind (m := Builtin.Tuple.tupleExact _) (wpAny_newObj_type (wpAny_pure ⟨_, rfl, wpAny_pure h⟩) htake))
end
end HT

namespace L2
open PySem PySem.Spec PyProof.Rows

/-! ### the parts of a slice -/
abbrev TO := St → Hp → (Option Int → Hp → Prop) → Prop
/-- a slice's part (left out, or an int) -/
def PO (X : Cx) (e : Option Expr) (t : TO) : Prop :=
  ∀ (pins : List (Addr × Obj)) (s : Shared) (σ : St) (H : Hp) (Q : Option Int → Hp → Prop), Inv X pins σ H s → t σ H Q →
    wpAny (model X.prog X.w) X.A (evalPart e X.env) (fun u s' => ∃ o H', Inv X pins σ H' s' ∧ IsPart u o ∧ Q o H') X.xe s
def tNoPart : TO := fun _ H Q => Q none H
def tPart (t : TE) : TO := fun σ H Q => t σ H fun x H1 => ∃ i, x = .int i ∧ Q (some i) H1

section
variable {X : Cx} {e : Expr} {te : TE} {lo hi : Option Expr} {tl th : TO} {pos p2 : Pos}

theorem po_none : PO X none tNoPart := by
  intro pins s σ H Q I h
  rw [evalPart_none]
  exact wpAny_pure ⟨none, H, I, .none, h⟩
theorem po_some (h : PE X e te) : PO X (some e) (tPart te) := by
  intro pins s σ H Q I hw
  rw [evalPart_some]
  refine thn (h pins s σ H _ I hw) fun u s1 ⟨x, H1, I1, r1, q1⟩ => ?_
  obtain ⟨i, rfl, q⟩ := q1
  obtain ⟨t, rfl⟩ := r1
  exact ⟨some i, H1, I1, .int i t, q⟩

/-- what a slice of a value is, by values: the slice object stands at sl -/
def SlR (X : Cx) (r : V → Option Int → Option Int → Hp → VK → Prop) : Prop :=
  ∀ (pins : List (Addr × Obj)) (s : Shared) (σ : St) (H : Hp) (x : V) (v vl vu : Value) (lo hi : Option Int) (sl : Addr) (Q : VK), Inv X pins σ H s → RelV x v → s.heap.IsSliceOf sl vl vu .none → IsPart vl lo → IsPart vu hi → r x lo hi H Q →
    ∃ T id, typeLookup (.type T) "__getitem__" = pure (some (.builtin id)) ∧ s.TypeIs v T ∧ wpAny (model X.prog X.w) X.A (getItem v (.ref sl)) (EP X pins σ Q) X.xe s
def tSl (r : V → Option Int → Option Int → Hp → VK → Prop) (te : TE) (tl th : TO) : TE := fun σ H Q => te σ H fun x H1 => tl σ H1 fun l H2 => th σ H2 fun u H3 => r x l u H3 Q
/-- a[lo:hi], any a -/
theorem pe_slice {r : V → Option Int → Option Int → Hp → VK → Prop} (hr : SlR X r) (he : PE X e te) (hl : PO X lo tl) (hu : PO X hi th) : PE X (.Subscript e (.Slice lo hi none p2) pos) (tSl r te tl th) := by
  intro pins s σ H Q I h
  refine Subscript_ (thn (he pins s σ H _ I h) fun v s1 ⟨x, H1, I1, r1, q1⟩ => ?_)
  refine wpAny_Slice (thn (hl pins s1 σ H1 _ I1 q1) fun vl s2 ⟨l, H2, I2, pl, q2⟩ => thn (hu pins s2 σ H2 _ I2 q2) fun vu s3 ⟨u, H3, I3, pu, q3⟩ => ?_)
  rw [evalPart_none]
  refine wpAny_pure ?_
  have I4 : Inv X pins σ H3 { s3 with heap := s3.heap.push { cls := .type "slice", data := .fields #[vl, vu, .none] } } := I3.kept (t' := s3.toks) fun b ob q => Heap.get?_push_of_some _ q
  obtain ⟨T, id, hT, ht, hg⟩ := hr pins { s3 with heap := s3.heap.push { cls := .type "slice", data := .fields #[vl, vu, .none] } } σ H3 x v vl vu l u s3.heap.objs.size Q I4 r1 (Heap.IsSliceOf.new ..) pl pu q3
  show wpAny (model X.prog X.w) X.A (subscriptTail e (.Slice lo hi none p2) v (.ref s3.heap.objs.size)) (EP X pins σ Q) X.xe { s3 with heap := s3.heap.push { cls := .type "slice", data := .fields #[vl, vu, .none] } }
  exact tail_any (ops := [.ref s3.heap.objs.size, v]) ht hT hg (by with_unfolding_all rfl)

/-- the items of xs[lo:hi] -/
def cutV (xs : List V) (lo hi : Option Int) : List V := (xs.drop (HT.sIx xs.length 0 lo)).take (HT.sIx xs.length xs.length hi - HT.sIx xs.length 0 lo)
theorem cutV_length (xs : List V) (lo hi : Option Int) : (cutV xs lo hi).length ≤ xs.length := by
  unfold cutV
  rw [List.length_take, List.length_drop]
  omega
/-- t[lo:hi], not the whole of it (the whole would be t itself) -/
def rSlT (K : PySem.W.Frag) : V → Option Int → Option Int → Hp → VK → Prop := fun x lo hi H Q => ∃ a xs, x = .ref a ∧ SqT K H a xs ∧
  ¬ (HT.sIx xs.length 0 lo = 0 ∧ HT.sIx xs.length xs.length hi = xs.length) ∧ ∀ p, H p = none → Q (.ref p) (upd H p (.tup (cutV xs lo hi)))
theorem sl_tup : SlR X (rSlT X.K) := by
  intro pins s σ H x v vl vu lo hi sl Q I rx hs pl pu h
  obtain ⟨a, xs, rfl, hx, hw, q⟩ := h
  cases rx
  obtain ⟨its, r, ht, hz⟩ := I.tuple hx
  have hlen : its.toArray.size = xs.length := by rw [List.size_toArray]; exact r.length.symm
  refine ⟨"tuple", _, PyProof.Rows.slot_tuple_getitem.lookup, ht.typeIs, ?_⟩
  refine HT.getItem_tuple_cut ht hs pl pu (by rw [hlen]; exact hw) ?_ (by rw [hlen]; exact hz)
  rw [hlen]
  refine ⟨.ref s.heap.objs.size, _, I.laid (t' := s.toks) (o := .tup (cutV xs lo hi)) (fun b ob q => Heap.get?_push_of_some _ q) (Nat.le_refl _) ?_, rfl, q _ (I.hok.fresh (Nat.le_refl _))⟩
  exact ⟨Nat.le_trans (cutV_length xs lo hi) hz, _, (r.drop (HT.sIx xs.length 0 lo)).take (HT.sIx xs.length xs.length hi - HT.sIx xs.length 0 lo), IsTup.new _ _⟩

/-! ### t < u, t + u -/
end
end L2

namespace L2
open PySem PySem.Spec PyProof.Rows

/-! ### places -/
/-- the place that an index of any sign means -/
def ixN (n : Nat) (i : Int) : Option Nat := if 0 ≤ i then (if i < n then some i.toNat else none) else if -(n : Int) ≤ i then some (i + n).toNat else none
def atI {α : Type} (xs : List α) (i : Int) : Option α := (ixN xs.length i).bind fun j => xs[j]?
theorem ixN_seq {n : Nat} {i : Int} {j : Nat} (h : ixN n i = some j) : seqIndex? i n = some j ∧ j < n ∧ -(n : Int) ≤ i ∧ i < n := by
  unfold ixN at h
  by_cases h0 : 0 ≤ i
  · rw [if_pos h0] at h
    by_cases h1 : i < n
    · rw [if_pos h1] at h
      have e : i.toNat = j := Option.some.inj h
      exact ⟨by rw [seqIndex_of h0 h1, e], by omega, by omega, h1⟩
    · rw [if_neg h1] at h; cases h
  · rw [if_neg h0] at h
    by_cases h1 : -(n : Int) ≤ i
    · rw [if_pos h1] at h
      have e : (i + n).toNat = j := Option.some.inj h
      exact ⟨by rw [seqIndex_neg (by omega) h1, e], by omega, h1, by omega⟩
    · rw [if_neg h1] at h; cases h
theorem atI_get {α : Type} {xs : List α} {i : Int} {v : α} (h : atI xs i = some v) : ∃ j, seqIndex? i xs.length = some j ∧ xs[j]? = some v ∧ j < xs.length ∧ -(xs.length : Int) ≤ i ∧ i < xs.length := by
  unfold atI at h
  cases e : ixN xs.length i with
  | none => rw [e] at h; cases h
  | some j =>
    rw [e] at h
    obtain ⟨h1, h2, h3, h4⟩ := ixN_seq e
    exact ⟨j, h1, h, h2, h3, h4⟩
theorem atI_nat {α : Type} {xs : List α} {j : Nat} {v : α} (h : xs[j]? = some v) : atI xs (j : Int) = some v := by
  have hj : j < xs.length := (List.getElem?_eq_some_iff.mp h).1
  have e : ixN xs.length (j : Int) = some j := by
    unfold ixN
    rw [if_pos (by omega), if_pos (by omega)]; simp
  unfold atI; rw [e]; exact h
theorem atI_last {α : Type} (xs : List α) (v : α) : atI (xs ++ [v]) (-1) = some v := by
  have hl : (xs ++ [v]).length = xs.length + 1 := by simp
  have e : ixN (xs ++ [v]).length (-1) = some xs.length := by
    unfold ixN
    rw [hl, if_neg (by decide), if_pos (by omega)]
    congr 1
    omega
  unfold atI
  rw [e]
  show (xs ++ [v])[xs.length]? = some v
  simp

/-! ### what may be subscripted -/
/-- what stands as an index of a plain subscript -/
def PlainIx (b : Expr) : Prop := ∀ o i, subscripted b false o i = operate [o, i] (getItem o i)
/-- a subscript by values -/
def IxR (X : Cx) (r : R2) : Prop :=
  ∀ (value slice : Expr) (pins : List (Addr × Obj)) (s : Shared) (σ : St) (H : Hp) (x y : V) (v u : Value) (Q : VK), Inv X pins σ H s → RelV x v → RelV y u → r x y H Q →
    subscripted slice false v u = operate [v, u] (getItem v u) → wpAny (model X.prog X.w) X.A (subscriptTail value slice v u) (EP X pins σ Q) X.xe s
/-- a call of a builtin's method by values: the receiver, the arguments -/
def MtR (X : Cx) (id : String) (r : V → List V → Hp → VK → Prop) : Prop :=
  ∀ (pins : List (Addr × Obj)) (s : Shared) (σ : St) (H : Hp) (x : V) (xs : List V) (v : Value) (us : List Value) (Q : VK), Inv X pins σ H s → RelV x v → Vals xs us → r x xs H Q →
    wpAny (model X.prog X.w) X.A (call (.builtin id) (v :: us)) (EP X pins σ Q) X.xe s
section
variable {X : Cx} {a b : Expr} {ta tb : TE} {pos : Pos}
/-- a[b] -/
theorem pe_ix {r : R2} (hr : IxR X r) (ha : PE X a ta) (hb : PE X b tb) (hs : PlainIx b) : PE X (.Subscript a b pos) (tOp r ta tb) := by
  intro pins s σ H Q I h
  exact Subscript_ (binT ha hb I h fun v u s2 x y H2 I2 rx ry q => hr a b pins s2 σ H2 x y v u Q I2 rx ry q (hs _ _))

def rIxL (K : PySem.W.Frag) : R2 := fun x y H Q => ∃ p xs i v, x = .ref p ∧ y = .int i ∧ SqL K H p xs ∧ atI xs i = some v ∧ Q v H
def rIxT (K : PySem.W.Frag) : R2 := fun x y H Q => ∃ p xs i v, x = .ref p ∧ y = .int i ∧ SqT K H p xs ∧ atI xs i = some v ∧ Q v H
theorem ix_list : IxR X (rIxL X.K) := by
  intro value slice pins s σ H x y v u Q I rx ry h hs
  obtain ⟨p, xs, i, z, rfl, rfl, hq, he, q⟩ := h
  cases rx
  obtain ⟨t, rfl⟩ := ry
  obtain ⟨its, r, pl, hz⟩ := I.list hq
  obtain ⟨j, h1, h2, h3, h4, h5⟩ := atI_get he
  obtain ⟨w, ew, rw'⟩ := r.get h2
  have hl := r.length
  have hn := line63
  have fin : EP X pins σ Q w s := ⟨z, H, I, rw', q⟩
  by_cases h0 : 0 ≤ i
  · have hj : i.toNat = j := by
      rw [seqIndex_of h0 h5] at h1
      exact Option.some.inj h1
    exact item_listR pl.isList h0 (by omega) (by rw [hj]; simpa using ew) fin hs
  · have hj : (i + (its.toArray.size : Int)).toNat = j := by
      rw [seqIndex_neg (by omega) h4] at h1
      rw [List.size_toArray, ← hl]
      exact Option.some.inj h1
    exact subscriptTail_builtinR (x := w) pl.isList.typeIs slot_list_getitem.lookup
      (wpAny_getItem_list_neg (Q := fun r s' => r = w ∧ EP X pins σ Q r s') pl.isList (by omega) (by rw [List.size_toArray] <;> omega) (by omega) (by rw [hj]; simpa using ew) ⟨rfl, fin⟩) hs
theorem ix_tup : IxR X (rIxT X.K) := by
  intro value slice pins s σ H x y v u Q I rx ry h hs
  obtain ⟨p, xs, i, z, rfl, rfl, hq, he, q⟩ := h
  cases rx
  obtain ⟨t, rfl⟩ := ry
  obtain ⟨its, r, pl, hz⟩ := I.tuple hq
  obtain ⟨j, h1, h2, h3, h4, h5⟩ := atI_get he
  obtain ⟨w, ew, rw'⟩ := r.get h2
  have hl := r.length
  have hn := line63
  have fin : EP X pins σ Q w s := ⟨z, H, I, rw', q⟩
  exact subscriptTail_builtinR (x := w) pl.typeIs slot_tuple_getitem.lookup
    (getItem_tuple (j := j) (Q := fun r s' => r = w ∧ EP X pins σ Q r s') pl (by omega) (by omega) (by rw [List.size_toArray, ← hl]; exact h1) (by simpa using ew) ⟨rfl, fin⟩) hs
/-! ### xs[i] = v, any sign -/
/-- the list's object behind a store -/
theorem mapSeq_set (its : List Value) (n j : Nat) (u : Value) : Obj.mapSeq (·.setIfInBounds j u) { cls := .type "list", data := .seq its.toArray n } = { cls := .type "list", data := .seq (its.set j u).toArray n } := by
  simp [Obj.mapSeq]
theorem Inv.lst {pins : List (Addr × Obj)} {σ : St} {H : Hp} {s : Shared} {p : Addr} {xs : List V} (I : Inv X pins σ H s) (h : H p = some (.lst xs)) :
    ∃ (its : List Value) (n : Nat), Vals xs its ∧ s.heap.get? p = some { cls := .type "list", data := .seq its.toArray n } ∧ xs.length ≤ sizeLine := by
  obtain ⟨z, its, n, r, e⟩ := I.hok p _ h
  exact ⟨its, n, r, e, z⟩
/-- the list at p is written by an update of its object -/
theorem Inv.lstUpd {pins : List (Addr × Obj)} {σ : St} {H : Hp} {s : Shared} {p : Addr} {xs ys : List V} {its its' : List Value} {n n' : Nat} {f : Obj → Obj} (I : Inv X pins σ H s) (h : H p = some (.lst xs))
    (ho : s.heap.get? p = some { cls := .type "list", data := .seq its.toArray n }) (hf : f { cls := .type "list", data := .seq its.toArray n } = { cls := .type "list", data := .seq its'.toArray n' }) (r : Vals ys its') (hz : ys.length ≤ sizeLine) (t : Nat) :
    Inv X pins σ (upd H p (.lst ys)) { s with heap := s.heap.update p f, toks := t } := by
  have e : (s.heap.update p f).get? p = some { cls := .type "list", data := .seq its'.toArray n' } := by
    rw [Heap.get?_update_self f ho (by rw [hf] <;> rfl), hf]
  refine I.write (x := p) (e := p) (by rw [h]; trivial) (.inl rfl) (fun b u hb q => (Heap.get?_update_other _ _ (Ne.symm hb)).trans q) ⟨_, e⟩ ?_
  exact ⟨hz, its', n', r, e⟩
def rSetL : V → V → V → Hp → (Hp → Prop) → Prop := fun o i v H Q => ∃ p xs k j, o = .ref p ∧ i = .int k ∧ H p = some (.lst xs) ∧ ixN xs.length k = some j ∧ Q (upd H p (.lst (xs.set j v)))
theorem set_list : PSet X rSetL := by
  intro pins s σ H o i v ov iv u Q I ro ri rv h
  obtain ⟨p, xs, k, j, rfl, rfl, hp, hj, q⟩ := h
  cases ro
  obtain ⟨t, rfl⟩ := ri
  obtain ⟨its, n, r, ho, hz⟩ := I.lst hp
  obtain ⟨h1, h2, h3, h4⟩ := ixN_seq hj
  have hl := r.length
  have hn := line63
  have I' : Inv X pins σ (upd H p (.lst (xs.set j v))) { s with heap := s.heap.update p (Obj.mapSeq (·.setIfInBounds j u)) } :=
    I.lstUpd hp ho (mapSeq_set its n j u) (r.set rv j) (by rw [List.length_set]; exact hz) s.toks
  by_cases h0 : 0 ≤ k
  · have hk : k.toNat = j := by
      rw [seqIndex_of h0 h4] at h1
      exact Option.some.inj h1
    exact PySem.W.ki_setAt ho h0 (by omega) (by rw [List.size_toArray, ← hl]; exact h4) (by rw [hk]; exact ⟨_, I', q⟩)
  · have hk : (k + (its.toArray.size : Int)).toNat = j := by
      rw [seqIndex_neg (by omega) h3] at h1
      rw [List.size_toArray, ← hl]
      exact Option.some.inj h1
    exact PySem.W.ki_setBack ho (by omega) (by rw [List.size_toArray, ← hl]; exact h3) (by omega) (by rw [hk]; exact ⟨_, I', q⟩)

/-! ### slices -/
theorem slice_bounds (lo hi : Option Int) (n : Nat) : (sliceBounds lo hi none n).1 = ((HT.sIx n 0 lo : Nat) : Int) ∧ (sliceBounds lo hi none n).2.1 = ((HT.sIx n n hi : Nat) : Int) ∧ (sliceBounds lo hi none n).2.2 = 1 := by
  refine ⟨?_, ?_, rfl⟩
  · cases lo with
    | none => simp [sliceBounds, HT.sIx]
    | some i =>
      simp only [sliceBounds, HT.sIx, Option.getD_none, show (1 : Int) > 0 by decide, if_true]
      by_cases h : i < 0
      · simp only [h, if_true] <;> omega
      · simp only [h, if_false] <;> omega
  · cases hi with
    | none => simp [sliceBounds, HT.sIx]
    | some i =>
      simp only [sliceBounds, HT.sIx, Option.getD_none, show (1 : Int) > 0 by decide, if_true]
      by_cases h : i < 0
      · simp only [h, if_true] <;> omega
      · simp only [h, if_false] <;> omega
theorem slicePick_cut (its : List Value) (lo hi : Option Int) : slicePick its.toArray lo hi none = ((its.drop (HT.sIx its.length 0 lo)).take (HT.sIx its.length its.length hi - HT.sIx its.length 0 lo)).toArray := by
  obtain ⟨h1, h2, h3⟩ := slice_bounds lo hi its.toArray.size
  unfold slicePick
  rw [h1, h2, h3]
  simp only [sliceRange_one, pick_run, List.size_toArray] <;> rfl
/-- xs[lo:hi] of a list: a new list -/
def rSlL (K : PySem.W.Frag) : V → Option Int → Option Int → Hp → VK → Prop := fun x lo hi H Q => ∃ a xs, x = .ref a ∧ SqL K H a xs ∧ ∀ p, H p = none → Q (.ref p) (upd H p (.lst (cutV xs lo hi)))
theorem sl_list : SlR X (rSlL X.K) := by
  intro pins s σ H x v vl vu lo hi sl Q I rx hs pl pu h
  obtain ⟨a, xs, rfl, hx, q⟩ := h
  cases rx
  obtain ⟨its, r, ht, hz⟩ := I.list hx
  have hlen := r.length
  refine ⟨"list", _, slot_list_getitem.lookup, ht.isList.typeIs, ?_⟩
  refine wpAny_getItem_list_slice ht.isList hs pl pu .none (by simp) ?_ (by rw [List.size_toArray] <;> omega)
  rw [slicePick_cut, ← hlen]
  refine ⟨.ref s.heap.objs.size, _, I.laid (t' := s.toks) (o := .lst (cutV xs lo hi)) (fun b ob q => Heap.get?_push_of_some _ q) (Nat.le_refl _) ?_, rfl, q _ (I.hok.fresh (Nat.le_refl _))⟩
  exact ⟨Nat.le_trans (cutV_length xs lo hi) hz, _, 0, (r.drop (HT.sIx xs.length 0 lo)).take (HT.sIx xs.length xs.length hi - HT.sIx xs.length 0 lo), Heap.get?_push_size _ rfl⟩

/-! ### in, not in: flat items -/
def flatV : V → Bool
  | .non => true
  | .bl _ => true
  | .int _ => true
  | .str _ => true
  | _ => false
/-- == of flat values -/
def eqV : V → V → Bool
  | .non, .non => true
  | .bl a, .bl b => a == b
  | .bl a, .int b => (if a then 1 else 0) == b
  | .int a, .bl b => a == (if b then 1 else 0)
  | .int a, .int b => a == b
  | .str a, .str b => a == b
  | _, _ => false
theorem eqAt_V {A : Around} {s : Shared} {y x : V} {u v : Value} (ry : RelV y u) (rx : RelV x v) (fy : flatV y = true) (fx : flatV x = true) : SeqAt.EqAt A s u v (eqV y x) := by
  cases y with
  | non =>
    cases ry
    cases x with
    | non => cases rx; exact SeqAt.EqAt.same _
    | bl b => cases rx; exact SeqAt.EqAt.none_bool b
    | int b => obtain ⟨t, rfl⟩ := rx; exact SeqAt.EqAt.none_int b t
    | str b => obtain ⟨t, rfl⟩ := rx; exact SeqAt.EqAt.none_str b t
    | _ => exact absurd (show false = true from fx) Bool.false_ne_true
  | bl a =>
    cases ry
    cases x with
    | non => cases rx; exact SeqAt.EqAt.bool_none a
    | bl b => cases rx; exact SeqAt.EqAt.bool_bool a b
    | int b => obtain ⟨t, rfl⟩ := rx; exact SeqAt.EqAt.bool_int a b t
    | str b => obtain ⟨t, rfl⟩ := rx; exact SeqAt.EqAt.bool_str a b t
    | _ => exact absurd (show false = true from fx) Bool.false_ne_true
  | int a =>
    obtain ⟨t', rfl⟩ := ry
    cases x with
    | non => cases rx; exact SeqAt.EqAt.int_none a t'
    | bl b => cases rx; exact SeqAt.EqAt.int_bool a t' b
    | int b => obtain ⟨t, rfl⟩ := rx; exact SeqAt.EqAt.int_int a t' b t
    | str b => obtain ⟨t, rfl⟩ := rx; exact SeqAt.EqAt.int_str a t' b t
    | _ => exact absurd (show false = true from fx) Bool.false_ne_true
  | str a =>
    obtain ⟨t', rfl⟩ := ry
    cases x with
    | non => cases rx; exact SeqAt.EqAt.str_none a t'
    | bl b => cases rx; exact SeqAt.EqAt.str_bool a t' b
    | int b => obtain ⟨t, rfl⟩ := rx; exact SeqAt.EqAt.str_int a t' b t
    | str b => obtain ⟨t, rfl⟩ := rx; exact SeqAt.EqAt.str_str a t' b t
    | _ => exact absurd (show false = true from fx) Bool.false_ne_true
  | _ => exact absurd (show false = true from fy) Bool.false_ne_true
/-- the items' answers, read off the values (a value's own answer does not lean on its token) -/
def eqU (x : V) (u : Value) : Bool := match u with
  | .none => eqV .non x
  | .bool b => eqV (.bl b) x
  | .int i _ => eqV (.int i) x
  | .str z _ => eqV (.str z) x
  | _ => false
theorem eqU_of {x y : V} {u : Value} (r : RelV y u) (f : flatV y = true) : eqU x u = eqV y x := by
  cases y with
  | non => cases r; rfl
  | bl b => cases r; rfl
  | int i => obtain ⟨t, rfl⟩ := r; rfl
  | str z => obtain ⟨t, rfl⟩ := r; rfl
  | _ => exact absurd (show false = true from f) Bool.false_ne_true
theorem any_eqU {x : V} : ∀ {xs : List V} {us : List Value}, Vals xs us → xs.all flatV = true → us.any (eqU x) = xs.any fun y => eqV y x
  | _, _, .nil, _ => rfl
  | y :: xs, u :: us, .cons r t, f => by
    rw [List.all_cons, Bool.and_eq_true] at f
    rw [List.any_cons, List.any_cons, eqU_of r f.1, any_eqU t f.2]
theorem mem_eqAt {A : Around} {s : Shared} {x : V} {v : Value} (rx : RelV x v) (fx : flatV x = true) : ∀ {xs : List V} {us : List Value}, Vals xs us → xs.all flatV = true → ∀ u ∈ us, SeqAt.EqAt A s u v (eqU x u)
  | _, _, .nil, _ => fun u hu => by cases hu
  | y :: xs, u :: us, .cons r t, f => fun u' hu => by
    rw [List.all_cons, Bool.and_eq_true] at f
    rcases List.mem_cons.mp hu with rfl | hu
    · rw [eqU_of r f.1]; exact eqAt_V r rx f.1 fx
    · exact mem_eqAt rx fx t f.2 u' hu
def inV (x : V) (xs : List V) : Bool := xs.any fun y => eqV y x
/-- x in a list or tuple of flat items -/
def rIn (K : PySem.W.Frag) (neg : Bool) : R2 := fun x y H Q => ∃ p xs, y = .ref p ∧ (SqL K H p xs ∨ SqT K H p xs) ∧ flatV x = true ∧ xs.all flatV = true ∧ Q (.bl (if neg then !inV x xs else inV x xs)) H
theorem op_notIn_seq : OpR X (compareOp .NotIn) (rIn X.K true) := by
  intro pins s σ H x y v u Q I rx ry h
  obtain ⟨p, xs, rfl, hq, fx, fs, q⟩ := h
  cases ry
  rcases hq with hq | hq
  · obtain ⟨its, r, pl, hz⟩ := I.list hq
    refine SeqAt.notIn_listAt (eqU x) pl.isList (fun w hw => mem_eqAt rx fx r fs w (by simpa using hw)) ⟨.bl _, H, I, rfl, ?_⟩
    rw [show its.toArray.any (eqU x) = its.any (eqU x) by simp, any_eqU r fs]
    exact q
  · obtain ⟨its, r, pl, hz⟩ := I.tuple hq
    refine SeqAt.notIn_tupleAt (eqU x) pl (fun w hw => mem_eqAt rx fx r fs w (by simpa using hw)) ⟨.bl _, H, I, rfl, ?_⟩
    rw [show its.toArray.any (eqU x) = its.any (eqU x) by simp, any_eqU r fs]
    exact q
/-! ### len, list(x), tuple(x) of any list or tuple that is read -/
theorem call_len_seq : CallR X (.builtin "len") (fun xs H Q => ∃ p ys, xs = [.ref p] ∧ (SqL X.K H p ys ∨ SqT X.K H p ys) ∧ Q (.int ys.length) H) := by
  intro pins s σ H xs us Q I r h
  obtain ⟨p, ys, rfl, hq, q⟩ := h
  obtain ⟨u, rfl, rx⟩ := vals1 r
  cases rx
  have hn := line63
  rcases hq with hq | hq
  · obtain ⟨its, r', pl, hz⟩ := I.list hq
    have hlen := r'.length
    exact Calls.call_len_list pl.isList (by simp only [List.size_toArray] <;> omega) ⟨.int ys.length, H, I.tok _, ⟨s.toks + 1, by rw [List.size_toArray, hlen]⟩, q⟩
  · obtain ⟨its, r', pl, hz⟩ := I.tuple hq
    have hlen := r'.length
    exact len_tuple pl (by simp only [List.size_toArray] <;> omega) ⟨.int ys.length, H, I.tok _, ⟨s.toks + 1, by rw [List.size_toArray, hlen]⟩, q⟩
theorem call_tuple_of : CallR X (.type "tuple") (fun xs H Q => ∃ p ys, xs = [.ref p] ∧ ((SqL X.K H p ys ∧ ∀ l, H l = none → Q (.ref l) (upd H l (.tup ys))) ∨ (SqT X.K H p ys ∧ Q (.ref p) H))) := by
  intro pins s σ H xs us Q I r h
  obtain ⟨p, ys, rfl, h⟩ := h
  obtain ⟨u, rfl, rx⟩ := vals1 r
  cases rx
  rcases h with ⟨hq, q⟩ | ⟨hq, q⟩
  · obtain ⟨its, r', pl, hz⟩ := I.list hq
    have hlen := r'.length
    refine call_tuple_list pl.isList (fun h' kp => ?_) (by simp only [List.size_toArray] <;> omega)
    have I1 : Inv X pins σ H { s with heap := h' } := I.kept (t' := s.toks) kp
    have I2 : Inv X pins σ (upd H h'.objs.size (.tup ys)) { s with heap := h'.push { cls := .type "tuple", data := .seq its.toArray } } :=
      I1.laid (t' := s.toks) (fun b o e => Heap.get?_push_of_some _ e) (Nat.le_refl _) (show ObjOk X.prog X.w _ _ _ (.tup ys) from ⟨hz, its, r', IsTup.new _ _⟩)
    exact ⟨.ref h'.objs.size, _, I2, rfl, q _ (I1.hok.fresh (Nat.le_refl _))⟩
  · obtain ⟨its, r', pl, hz⟩ := I.tuple hq
    exact call_tuple_same pl ⟨.ref p, H, I, rfl, q⟩

/-! ### the call of a builtin's method: o.m(..) -/
/-- the value is of that builtin type -/
def tyV (K : PySem.W.Frag) (T : String) (x : V) (H : Hp) : Prop := match x with
  | .str _ => T = "str"
  | .int _ => T = "int"
  | .ref p => (T = "list" ∧ ∃ xs, SqL K H p xs) ∨ (T = "tuple" ∧ ∃ o, K.lookup p = some o ∧ o.cls = .type "tuple" ∧ o.dict = none) ∨
      (T = "dict" ∧ ((∃ kvs, H p = some (.dK kvs)) ∨ ∃ kvs, H p = some (.dT kvs))) ∨ (T = "set" ∧ ∃ S n, H p = some (.set S n))
  | _ => False
theorem tyV_is {pins : List (Addr × Obj)} {σ : St} {H : Hp} {s : Shared} {T : String} {x : V} {v : Value} (I : Inv X pins σ H s) (r : RelV x v) (ty : tyV X.K T x H) :
    s.TypeIs v T ∧ ∀ a, v = .ref a → ∃ ob, s.heap.get? a = some ob ∧ ob.dict = none := by
  cases x with
  | str z =>
    obtain ⟨t, rfl⟩ := r
    cases (show T = "str" from ty)
    exact ⟨typeIs_str s z t, fun _ e => nomatch e⟩
  | int i =>
    obtain ⟨t, rfl⟩ := r
    cases (show T = "int" from ty)
    exact ⟨typeIs_int s i t, fun _ e => nomatch e⟩
  | ref p =>
    cases r
    rcases ty with ⟨rfl, xs, hq⟩ | ⟨rfl, o, hk, hc, hd⟩ | ⟨rfl, hk⟩ | ⟨rfl, S, n, hk⟩
    · obtain ⟨its, _, pl, _⟩ := I.list hq
      refine ⟨pl.isList.typeIs, fun a e => ?_⟩
      cases e
      obtain ⟨o, n, e, c, hd, _⟩ := pl
      exact ⟨o, e, hd⟩
    · refine ⟨⟨o, I.kIn p o hk, hc⟩, fun a e => ?_⟩
      cases e
      exact ⟨o, I.kIn _ o hk, hd⟩
    · have z : ∃ o, s.heap.get? p = some o ∧ o.ExactDict := by
        rcases hk with ⟨kvs, hk⟩ | ⟨kvs, hk⟩
        · obtain ⟨_, _, _, _, o, _, _, e, ex, _⟩ := I.hok p _ hk
          exact ⟨o, e, ex⟩
        · obtain ⟨_, _, _, _, o, _, _, e, ex, _⟩ := I.hok p _ hk
          exact ⟨o, e, ex⟩
      obtain ⟨o, e, ex⟩ := z
      refine ⟨⟨o, e, ex.1⟩, fun a e2 => ?_⟩
      cases e2
      exact ⟨o, e, ex.2.1⟩
    · obtain ⟨o, _, _, _, e, ex, _⟩ := I.hok p _ hk
      refine ⟨⟨o, e, ex.1⟩, fun a e2 => ?_⟩
      cases e2
      exact ⟨o, e, ex.2.1⟩
  | _ => exact False.elim ty
def tBM (K : PySem.W.Frag) (T : String) (r : V → List V → Hp → VK → Prop) (to : TE) (t : TA) : TE := fun σ H Q => to σ H fun x H1 => tyV K T x H1 ∧ t σ H1 fun xs H2 => r x xs H2 Q
variable {o e : Expr} {es : List Expr} {to : TE} {t : TA} {name : Str} {apos cpos : Pos} {T id : String} {r : V → List V → Hp → VK → Prop}
theorem pe_bm (pa : PlainAttrs T) (slot : Slot T name id) (hty : typeOf (.builtin id) = pure (.type "method_descriptor")) (hm : MtR X id r) (ho : PE X o to) (ha : PA X (e :: es) t)
    (hbase : attributeBase o name X.env (eval o X.env) = eval o X.env := by rfl)
    (hfew : ((backTo cpos (starEach (e :: es) X.env)).all (fun x => !x.1) && (backToKw cpos (keywordEach [] X.env)).all (fun x => x.1.isSome)
      && decide ((e :: es).length + ([] : List Keyword).length + (if ([] : List Keyword).isEmpty then 0 else 1) < 30)) = true := by rfl)
    (hline : (apos.endLine == cpos.line) = true := by rfl) (hs : starEach (e :: es) X.env = (false, eval e X.env) :: starEach es X.env := by rfl) (hplain : (backTo cpos (starEach es X.env)).any (·.1) = false := by rfl) :
    PE X (.Call (.Attribute o name apos) (e :: es) [] cpos) (tBM X.K T r to t) := by
  intro pins s σ H Q I h
  refine wpAny_Call_method_late hbase hfew hline rfl (thn (ho pins s σ H _ I h) fun v s1 ⟨x, H1, I1, r1, ty, q1⟩ => ?_)
  obtain ⟨h1, h2⟩ := tyV_is I1 r1 ty
  refine ⟨T, id, pa, slot, hty, h1, h2, ?_⟩
  have hA := ha cpos pins s1 σ H1 _ I1 q1
  rw [hs] at hA ⊢
  refine Calls.callWith_builtin (by show (false || (backTo cpos (starEach es X.env)).any (·.1)) = false; rw [hplain] <;> rfl) (Calls.evalArgs_plain ?_)
  exact thn hA fun us s2 ⟨vs, H2, I2, r2, q2⟩ => hm pins s2 σ H2 x vs v us Q I2 r1 r2 q2
/- xs.append(e), list.index on a module's tuple .. are MtR facts of 06m -/
end
end L2

namespace L2
open PySem PySem.Spec PyProof.Rows

def MtM (X : Cx) (id : String) (r : V → List V → Hp → VK → Prop) : Prop :=
  ∀ (pins : List (Addr × Obj)) (s : Shared) (σ : St) (H : Hp) (x : V) (xs : List V) (v : Value) (us : List Value) (Q : VK), Inv X pins σ H s → RelV x v → Vals xs us → r x xs H Q →
    wpAny (model X.prog X.w) X.A (call (.builtin id) (v :: us)) (EP X pins σ Q) X.xe s

/-! ### lists of values -/
theorem Vals.one : ∀ {x : V} {us : List Value}, Vals [x] us → ∃ u, us = [u] ∧ RelV x u
  | _, _, .cons r .nil => ⟨_, rfl, r⟩
theorem Vals.two : ∀ {x y : V} {us : List Value}, Vals [x, y] us → ∃ u v, us = [u, v] ∧ RelV x u ∧ RelV y v
  | _, _, _, .cons r (.cons q .nil) => ⟨_, _, rfl, r, q⟩
theorem Vals.zero : ∀ {us : List Value}, Vals [] us → us = []
  | _, .nil => rfl
theorem Vals.dropLast {xs : List V} {us : List Value} (h : Vals xs us) : Vals xs.dropLast us.dropLast := by
  induction h with
  | nil => exact .nil
  | cons r t ih =>
    cases t with
    | nil => exact .nil
    | cons q t' => exact .cons r ih
theorem Vals.reverse {xs : List V} {us : List Value} (h : Vals xs us) : Vals xs.reverse us.reverse := by
  induction h with
  | nil => exact .nil
  | cons r t ih => rw [List.reverse_cons, List.reverse_cons]; exact Vals.append ih (.cons r .nil)
section
variable {X : Cx} {pins : List (Addr × Obj)} {σ : St} {H : Hp} {s : Shared} {l b : Addr} {xs ys zs : List V}

/-! ### the two steps: a tracked list is rewritten, a new list is laid -/
theorem Inv.lset {its its' : List Value} {n : Nat} {f : Array Value → Array Value} {t' : Nat} (I : Inv X pins σ H s) (hH : H l = some (.lst xs))
    (e : s.heap.get? l = some { cls := .type "list", data := .seq its.toArray n }) (hf : f its.toArray = its'.toArray) (hv : Vals ys its') (hz : ys.length ≤ sizeLine) :
    Inv X pins σ (upd H l (.lst ys)) { s with heap := s.heap.update l (Obj.mapSeq f), toks := t' } := by
  have q := PySem.IsL.update e f
  rw [hf] at q
  refine I.write (x := l) (e := l) (by rw [hH]; exact trivial) (.inl rfl) (fun b' u hb hu => (Heap.get?_update_other s.heap (Obj.mapSeq f) (Ne.symm hb)).trans hu) ⟨_, q⟩ ?_
  exact ⟨hz, its', _, hv, q⟩
theorem Inv.lnew {its : List Value} {t' : Nat} (I : Inv X pins σ H s) (hv : Vals ys its) (hz : ys.length ≤ sizeLine) :
    Inv X pins σ (upd H s.heap.objs.size (.lst ys)) { s with heap := s.heap.push { cls := .type "list", data := .seq its.toArray }, toks := t' } :=
  I.laid (fun _ _ q => Heap.get?_push_of_some _ q) (Nat.le_refl _) ⟨hz, its, 0, hv, Heap.get?_push_size _ rfl⟩
theorem Inv.fresh (I : Inv X pins σ H s) : H s.heap.objs.size = none := I.hok.fresh (Nat.le_refl _)
theorem Inv.lstM (I : Inv X pins σ H s) (hH : H l = some (.lst xs)) : xs.length ≤ sizeLine ∧ ∃ (its : List Value) (n : Nat), Vals xs its ∧ xs.length = its.length ∧ s.heap.get? l = some { cls := .type "list", data := .seq its.toArray n } := by
  obtain ⟨z, its, n, r, e⟩ := I.hok l _ hH
  exact ⟨z, its, n, r, r.length, e⟩

theorem notLongL {n : Nat} (h : n ≤ sizeLine) : Builtin.List.listTooLong n = false := by
  unfold Builtin.List.listTooLong
  exact decide_eq_false (by omega)
end

section
variable {X : Cx}

/-! ### methods -/
def rAppend : V → List V → Hp → VK → Prop := fun x vs H Q => ∃ l xs y, x = .ref l ∧ vs = [y] ∧ H l = some (.lst xs) ∧ xs.length < sizeLine ∧ Q .non (upd H l (.lst (xs ++ [y])))
theorem mt_append : MtM X "list.append" rAppend := by
  intro pins s σ H x vs v us Q I rx rv h
  obtain ⟨l, xs, y, rfl, rfl, hH, hz, q⟩ := h
  cases rx
  obtain ⟨u, rfl, ru⟩ := rv.one
  obtain ⟨z, its, n, r, hl, e⟩ := I.lstM hH
  refine call_meets F.slot_list_append ⟨_, e, rfl⟩ F.entry_list_append (F.args_list_append_2 _ _) (PySem.list_append l its.toArray n u (by rw [List.size_toArray]; omega)) ⟨e, ?_⟩
  refine ⟨.non, _, I.lset (its' := its ++ [u]) hH e (by simp) (r.append (.cons ru .nil)) ?_, rfl, q⟩
  rw [List.length_append, List.length_singleton]
  omega

def rExtend : V → List V → Hp → VK → Prop := fun x vs H Q => ∃ l b xs zs, x = .ref l ∧ vs = [.ref b] ∧ H l = some (.lst xs) ∧ H b = some (.lst zs) ∧ xs.length + zs.length ≤ sizeLine ∧ Q .non (upd H l (.lst (xs ++ zs)))
theorem mt_extend : MtM X "list.extend" rExtend := by
  intro pins s σ H x vs v us Q I rx rv h
  obtain ⟨l, b, xs, zs, rfl, rfl, hH, hB, hz, q⟩ := h
  cases rx
  obtain ⟨u, rfl, ru⟩ := rv.one
  cases ru
  obtain ⟨z, its, n, r, hl, e⟩ := I.lstM hH
  obtain ⟨z2, its2, n2, r2, hl2, e2⟩ := I.lstM hB
  have hsz : its.toArray.size + its2.toArray.size ≤ sizeLine := by rw [List.size_toArray, List.size_toArray]; omega
  have hlong : ¬ (!its.toArray.isEmpty && Builtin.List.listTooLong (its.toArray.size + its2.toArray.size)) = true := by
    rw [notLongL hsz, Bool.and_false]
    exact Bool.false_ne_true
  refine call_meets F.slot_list_extend ⟨_, e, rfl⟩ F.entry_list_extend (F.args_list_extend_2 _ _)
    (AutoSeq1.list_extend_list_list_0 l its.toArray n b its2.toArray n2 hlong (by rw [List.size_toArray]; omega) (by omega)) ⟨e, e2, ?_⟩
  refine ⟨.non, _, I.lset (its' := its ++ its2) hH e (by simp) (r.append r2) ?_, rfl, q⟩
  rw [List.length_append]
  omega

/-! ### list + list, list += list, list * int -/
def rCat : R2 := fun x y H Q => ∃ l b xs zs, x = .ref l ∧ y = .ref b ∧ H l = some (.lst xs) ∧ H b = some (.lst zs) ∧ xs.length + zs.length ≤ sizeLine ∧ ∀ p, H p = none → Q (.ref p) (upd H p (.lst (xs ++ zs)))
theorem op_cat : OpR X (binaryOp .Add) rCat := by
  intro pins s σ H x y v u Q I rx ry h
  obtain ⟨l, b, xs, zs, rfl, rfl, hH, hB, hz, q⟩ := h
  cases rx
  cases ry
  obtain ⟨z, its, n, r, hl, e⟩ := I.lstM hH
  obtain ⟨z2, its2, n2, r2, hl2, e2⟩ := I.lstM hB
  refine PySem.P.add_list e e2 ?_ (by rw [List.size_toArray, List.size_toArray]; omega)
  have ea : its.toArray ++ its2.toArray = (its ++ its2).toArray := by simp
  rw [ea]
  exact ⟨.ref _, _, I.lnew (t' := s.toks) (r.append r2) (by rw [List.length_append]; omega), rfl, q _ I.fresh⟩
/-! ### del xs[i] -/
end

/-! ### xs[a:b] = ys -/
section
variable {prog : Program} {w : World} {A : Around} {E : Value → Shared → Prop} {s : Shared}
end

section
variable {X : Cx}
end
end L2

namespace Att
open PySem PySem.W PySem.Calls PyProof.Rows

/-! ### the script -/
theorem ints_of_wellAll {P : Params} {h : Heap} : ∀ (ns : List Int) (vs : List Value), WellAll P h vs (ns.map WData.int) → IntsAre vs ns := by
  intro ns
  induction ns with
  | nil =>
    intro vs w
    rw [List.map_nil] at w
    cases w
    exact .nil
  | cons n ns ih =>
    intro vs w
    rw [List.map_cons] at w
    cases w with
    | cons a b =>
      cases a
      exact .cons _ _ (ih _ b)

theorem script_of {l : OpenLaw} {n : Nat} (hn : l.most = some n) {P : Params} {h : Heap} {args : List WData} {vals : List Value}
    (hpre : l.row.toRowW.claim.pre args = true) (hwl : WellAll P h vals args) :
    ∃ a vs ns, vals = [Value.ref a] ∧ args = [WData.list (ns.map WData.int)] ∧ h.get? a = some { cls := .type "list", data := .seq vs.toArray } ∧ IntsAre vs ns ∧ ns.length ≤ n := by
  have hsh : WShape.hasAll [] args [.list .int] = true := (pre_splitW hpre).1
  have hc : l.pre.holds [] { args := args } = true := (pre_splitW hpre).2
  obtain ⟨d, r, rfl, h1, h2⟩ := hasAllW_cons hsh
  obtain rfl := hasAllW_nil h2
  obtain ⟨xs, rfl, h3⟩ := hasW_list h1
  obtain ⟨ns, rfl⟩ := items_int h3
  have hlen : ns.length ≤ n := by
    unfold OpenLaw.pre at hc
    have h4 : (WTm.not (.lt (.lit (.int (n : Int))) (.len (.arg 0)))).holds [] { args := [.list (ns.map .int)] } = true := by
      have h4 := (holds_andW hc).1
      rw [hn] at h4
      exact h4
    have h5 := condW_of h4 (w_not (w_lt w_lit (w_len_list (w_arg rfl))))
    rw [List.length_map] at h5
    refine Nat.le_of_not_lt fun q => ?_
    have q' : (n : Int) < ((ns.length : Nat) : Int) := by omega
    first
      | (rw [decide_eq_true q'] at h5; exact absurd h5 (by decide))
      | (simp at h5; omega)
  cases hwl with
  | cons w1 w2 =>
    cases w2
    cases w1 with
    | list ho hall => exact ⟨_, _, ns, rfl, rfl, ho, ints_of_wellAll ns _ hall, hlen⟩

theorem post_true (l : OpenLaw) (args : List WData) : l.row.toRowW.claim.post args (.bool true) args = true :=
  postW_of (r := l.row.toRowW) (X := (true == true))
    (show WShape.has [] (.bool true) .bool = true by first | rfl | decide | simp [WShape.has, WShape.arms, WShape.armsAll])
    (show (WTm.eq .res (.lit (.bool true))).value [] { args := args, res := some (.bool true), after := args } = some (.bool (true == true)) from w_eq_bool (w_res rfl) w_lit) rfl

/-! ### the attachment: holds_open's last premise (the goal 'hc' behind k_head) from a wpAny of the law's body -/
/-- the same from a codeAny of the CALL (for a layer whose function contracts speak of calls) -/
theorem attach_call {l : OpenLaw} {n : Nat} {q : Program} {loose : List Str} {XP : (Str → Option Value) → Heap → Prop} {YP : World → Heap → Prop} {d : DefRec}
    (hn : l.most = some n) (hdf : d.params.defaults = [])
    (call : ∀ (w : World) (s₀ s₁ : Shared) (mg mb : Str → Option Value) (fa : Addr) (o : Obj) (pm cd doc : Value) (a : Addr) (vs : List Value) (ns : List Int),
      Ground q loose [] XP w s₀ mg mb s₁.heap → YP w s₁.heap →
      s₁.heap.get? fa = some o → o.data = .func (docDef d.name d.params d.body d.scope pm cd doc) → s₁.heap.CodeRec cd d.name → mg d.name = some (.ref fa) →
      s₁.heap.get? a = some { cls := .type "list", data := .seq vs.toArray } → IntsAre vs ns → ns.length ≤ n → s₁.gens = #[] →
      codeAny (model l.prog w) callerA (.call (.ref fa) ⟨[.ref a], []⟩) (fun r s' => r = .ok (.ret (.bool true)) ∧ OldK s₁.heap s'.heap ∧ s'.os = s₁.os ∧ AllBare s'.gens) s₁) :
    WalkO q loose XP YP l.row.toRowW d [] (fun f vs => PySem.call f vs) := by
  intro w s₀ s₁ mg mb G Y fa o pm cd doc dV kV ho hd hcd hD hmg hg args vals as hpre hlay hrd hwl hlo
  obtain rfl : dV = .none := Dflts.none hD hdf
  obtain rfl : kV = .none := Dflts.noKw hD
  obtain ⟨a, vs, ns, rfl, rfl, hobj, hints, hlen⟩ := script_of hn hpre hwl
  refine enter_call (codeAny_mono (call w s₀ s₁ mg mb fa o pm cd doc a vs ns G Y ho (fd_plain hd) hcd hmg hobj hints hlen hg) fun r s' hq => ?_)
  obtain ⟨rfl, h2, h3, h4⟩ := hq
  exact ⟨.inl ⟨.bool true, .bool true, [], rfl, fun _ => rfl, .bool true, post_true l _, fun _ => ⟨List.Pairwise.nil, fun _ hm => (nomatch hm)⟩⟩, h2, h3, h4⟩

/-! ### rules over ANY heap (no ledger) from facts about the written part K: the library's own take a ledger (News) for what they write -/
section
variable {prog : Program} {w : World} {A : Around} {E : Value → Shared → Prop} {s : Shared} {K : Frag}

/-! the whole heap as the ledger: makes every rule that writes through a ledger a rule over any heap -/
end
end Att

namespace L2
open PySem PySem.Spec PyProof.Rows

theorem vals_ints : ∀ {vs : List Value} {ns : List Int}, IntsAre vs ns → Vals (ns.map V.int) vs
  | _, _, .nil => .nil
  | _, _, .cons n t h => .cons ⟨t, rfl⟩ (vals_ints h)

/-- nothing is tracked but the script, known to the object (or it is an object of the module) -/
def Only (H : Hp) : Prop := ∀ b, H b = none ∨ ∃ o xs, H b = some (.frz o (.lst xs))

/-- THE HEAD: the law's promise, at the heap behind the top. F, the promise of the law's def, may use that base is part of the heap (so K.In base, base.Ns mainGlobals mg stand in Mod) -/
theorem law_call {P : Program} {w : World} {K : PySem.W.Frag} {mg mb : Str → Option Value} {CX : CXT} {k : Nat} {fa a : Addr} {fd : FuncData} {x : Str} {sp : Sp} {s₁ : Shared} {vs : List Value} {ns : List Int}
    (KX : K.In s₁.heap) (hns : s₁.heap.Ns mainGlobals mg) (hb : s₁.heap.Ns builtinsNs mb) (hbb : ∀ x : Str, x ≠ "__name__" → mb x = bootBuiltins x) (hlim : s₁.heap.NoLimit) (hg : s₁.gens = #[])
    (ha : s₁.heap.get? a = some { cls := .type "list", data := .seq vs.toArray }) (hi : IntsAre vs ns) (hl : ns.length ≤ sizeLine) (hr : Room k callerA)
    (F : ∀ base : Heap, K.In base → base.Ns mainGlobals mg → FnOk P w K mg base CX k fa fd [x] sp) (hbind : ∀ (s : Shared) (u : Value), BindsTo s fd ⟨[u], []⟩ [(x, u)])
    (hsp : ∀ H : Hp, Only H → SqL K H a (ns.map V.int) → sp [.ref a] H (fun v _ => v = .bl true) fun _ _ _ => False)
    (hCX : ∀ H e s', CX [] H s₁ (fun _ _ _ => False) e s' → False) :
    codeAny (model P w) callerA (.call (.ref fa) ⟨[.ref a], []⟩) (fun r s' => r = .ok (.ret (.bool true)) ∧ OldK s₁.heap s'.heap ∧ s'.os = s₁.os ∧ AllBare s'.gens) s₁ := by
  have rv := vals_ints hi
  have lenV := hi.length
  -- from an abstract heap in which nothing but the script may be tracked
  have core : ∀ H : Hp, Only H → SqL K H a (ns.map V.int) → HOk P w H s₁.heap → (∀ b, H b ≠ none → b = a) → (H a ≠ none → K.lookup a = none) →
      codeAny (model P w) callerA (.call (.ref fa) ⟨[.ref a], []⟩) (fun r s' => r = .ok (.ret (.bool true)) ∧ OldK s₁.heap s'.heap ∧ s'.os = s₁.os ∧ AllBare s'.gens) s₁ := by
    intro H hO hS hok hA hK
    have base_of : ∀ {b : Addr} {o : Obj}, s₁.heap.get? b = some o → H b = none → (hidT s₁.heap H).get? b = some o := fun e n => hidT_get e n
    have noA : ∀ {b : Addr} {o : Obj} {es : Array DictEntry} {ep : Nat}, s₁.heap.get? b = some o → o.data = .dict es ep → H b = none := fun {b o es ep} e d => by
      cases q : H b with
      | none => rfl
      | some u =>
        have e' : b = a := hA b (by rw [q]; simp)
        subst e'
        rw [ha] at e; cases e
        have d' : Data.seq vs.toArray _ = Data.dict es ep := d
        cases d'
    have nsK : ∀ {b : Addr} {m : Str → Option Value}, s₁.heap.Ns b m → (hidT s₁.heap H).Ns b m := fun {b m} ⟨o, es, ep, e, d, r⟩ => ⟨o, es, ep, base_of e (noA e d), d, r⟩
    have hKb : K.In (hidT s₁.heap H) := fun b o e => base_of (KX b o e) (by
      cases q : H b with
      | none => rfl
      | some u =>
        have e' : b = a := hA b (by rw [q]; simp)
        subst e'
        rw [hK (by rw [q]; simp)] at e; cases e)
    have hM : Mod K mg (hidT s₁.heap H) := ⟨hKb, nsK hns, ⟨mb, nsK hb, hbb⟩, let ⟨mc, h1, h2⟩ := hlim; ⟨mc, nsK h1, h2⟩⟩
    have e0 : Env0 P w K mg (hidT s₁.heap H) callerA [] s₁ H := ⟨rfl, hM, fun b o e => of_hidT e, Nat.le_of_eq (hidT_size _ _), trivial, fun b hb => absurd (show b ∈ ([] : List Addr) from hb) (by simp), hok, .of_eq hg⟩
    refine codeAny_mono ((F _ hKb (nsK hns)).run callerA [] s₁ H ⟨[.ref a], []⟩ [.ref a] [.ref a] _ _ hr e0 (hbind s₁ (.ref a)) (.cons rfl .nil) (hsp H hO hS)) fun r s' h => ?_
    cases r with
    | error e => exact (hCX H e s' h).elim
    | ok fl =>
      cases fl with
      | next => exact False.elim h
      | brk => exact False.elim h
      | cont => exact False.elim h
      | ret u =>
        obtain ⟨v, H', os, bare, un, hok', r', q⟩ := h
        have q' : v = .bl true := q
        subst q'
        obtain rfl : u = Value.bool true := r'
        refine ⟨rfl, OldK.of_keep fun b o e => ?_, os, bare⟩
        cases q : H b with
        | none => exact un.keep b o e q (by intro z; exact absurd (show b ∈ ([] : List Addr) from z) (by simp)) (by simp)
        | some u =>
          rcases hO b with z | ⟨ob, xs, z⟩
          · rw [q] at z; cases z
          · have z2 := un.frzs b ob _ z
            obtain ⟨e1, _⟩ := hok b _ z
            obtain ⟨e2, _⟩ := hok' b _ z2
            rw [e] at e1; cases e1
            exact e2
  cases hk : K.lookup a with
  | some o =>
    -- the script is one of the module's own objects
    have e := KX a o hk
    rw [ha] at e
    cases e
    refine core (fun _ => none) (fun _ => .inl rfl) (.inr ⟨_, vs.toArray, _, hk, rfl, rfl, rfl, by rw [List.size_toArray, lenV]; exact hl, by simpa using rv⟩) (fun b u z => by have z' : (none : Option HO) = some u := z; cases z') (fun b z => absurd rfl z) fun z => absurd rfl z
  | none =>
    refine core (fun b => if b = a then some (.frz { cls := .type "list", data := .seq vs.toArray } (.lst (ns.map V.int))) else none) (fun b => ?_) (.inl (.inr ⟨{ cls := .type "list", data := .seq vs.toArray }, if_pos rfl⟩)) (fun b u z => ?_) (fun b z => ?_) fun _ => hk
    · by_cases hb : b = a
      · exact .inr ⟨_, _, if_pos hb⟩
      · exact .inl (if_neg hb)
    · by_cases hb : b = a
      · have z' := (if_pos hb).symm.trans z
        cases z'
        subst hb
        exact ⟨ha, by rw [List.length_map]; exact hl, vs, _, rv, ha⟩
      · have z' := (if_neg hb).symm.trans z
        cases z'
    · by_cases hb : b = a
      · exact hb
      · exact absurd (if_neg hb) z
end L2

namespace L2
open PySem PySem.Spec PyProof.Rows

/-- the goal that k_head leaves (case hc), from the law's promise. F gives the function object fd (K's own) once, then the promise over every base -/
theorem walk_of {l : PySem.W.OpenLaw} {n k : Nat} {q : Program} {loose : List Str} {XP : (Str → Option Value) → Heap → Prop} {YP : World → Heap → Prop} {d : DefRec} {K : Params → PySem.W.Frag} {CX : World → CXT} {sp : World → Sp} {x : Str}
    (hn : l.most = some n) (hn2 : n ≤ sizeLine) (hdf : d.params.defaults = []) (hr : Room k callerA)
    (hY : ∀ (w : World) (h : Heap), YP w h → (K w.params).In h)
    (F : ∀ (w : World) (mg : Str → Option Value) (fa : Addr) (h : Heap), (K w.params).In h → h.Ns mainGlobals mg → mg d.name = some (.ref fa) →
      ∃ fd : FuncData, (∀ (s : Shared) (u : Value), BindsTo s fd ⟨[u], []⟩ [(x, u)]) ∧
        ∀ base : Heap, (K w.params).In base → base.Ns mainGlobals mg → FnOk l.prog w (K w.params) mg base (CX w) k fa fd [x] (sp w))
    (hsp : ∀ (w : World) (H : Hp) (a : Addr) (ns : List Int), ns.length ≤ n → Only H → SqL (K w.params) H a (ns.map V.int) → sp w [.ref a] H (fun v _ => v = .bl true) fun _ _ _ => False)
    (hCX : ∀ (w : World) (H : Hp) (s : Shared) (e : Value) (s' : Shared), CX w [] H s (fun _ _ _ => False) e s' → False) :
    PySem.W.WalkO q loose XP YP l.row.toRowW d [] (fun f vs => PySem.call f vs) := by
  refine Att.attach_call hn hdf fun w s₀ s₁ mg mb fa o pm cd doc a vs ns G Y ho hd hcd hmg hobj hints hlen hg => ?_
  have KX := hY w _ Y
  obtain ⟨fd, hb, hF⟩ := F w mg fa _ KX G.T.g hmg
  exact law_call KX G.T.g G.T.b G.T.builtins G.T.nolimit hg hobj hints (Nat.le_trans hlen hn2) hr hF hb (fun H hO hS => hsp w H a ns hlen hO hS) fun H e s' => hCX w H s₁ e s'
end L2

/- THE LAST THEOREM (shape; LID, My.* are yours):
   My.Adr: a structure of the addresses that your layer names (classes, functions); My.Txt K t: a structure (Prop) of the equations over K;
   My.txt_mk : {K} {implicit addresses ..} (e1 : nsIn K mainGlobals "law" = some (some (.ref f))) (e2 : K.lookup f = some ⟨oc, od, .func (fnOf "law" "law" params body scope dV kV doc pm an cdv ct), sl⟩) (e3 : codeIn K cdv "law" = true) .. : ∃ t, My.Txt K t

set_option maxRecDepth 100000 in
set_option maxHeartbeats 0 in
theorem PySem.Challenge.cw_LID_holds : PySem.Challenge.rw_LID.Holds := by
  w_on; o_law; k_head; (case hw => w_witness2)
  k_fill
  refine L2.walk_of (l := PySem.Challenge.rw_LID) (n := 63) (k := 40) (x := "script") (CX := fun w => ..) (sp := fun _ => My.sp_law) rfl (by decide) rfl ⟨rfl, by decide, by decide⟩ (fun w h Y => PySem.W.kIn_of Y) ?F ?S ?C
  case F =>
    intro w mg fa h KX G hmg
    have T : ∃ t, My.Txt (L2.KOf KX) t := by
      dsimp only [L2.KOf]                          -- K must stand as «<heap const> w.params» for k_is
      refine' My.txt_mk ?e1 ?e2 ?e3 ..
      (case e1 => PySem.W.k_is)                    -- in the order: a name -> its address -> its object -> its parts
      (case e2 => PySem.W.k_is)
      ..
    obtain ⟨t, T⟩ := T
    have e0 := hmg.symm.trans (PySem.W.mg_of KX G T.law)
    cases e0                                       -- fa is the law's own address
    exact ⟨_, fun s u => .of_eq rfl, fun base kb nb => My.law_fn T kb nb⟩     -- if «.of_eq rfl» comes too early: refine' ⟨_, ?b, fun base kb nb => My.law_fn T kb nb⟩; exact fun s u => .of_eq rfl
  case S => exact fun w H a ns hl hO hS => ..
  case C => exact ..
(the tactic k_is has no namespace: write k_is) -/

/-! SHORT WORDS over the layer: a def of the text, its body, what a loop and a test want. -/
namespace L2
open PySem PySem.Spec PyProof.Rows

/-! ### the text by places -/
def defArgs (s : Stmt) : Arguments := match s with
  | .FunctionDef _ a _ _ _ _ _ _ _ _ => a
  | _ => { posonlyargs := [], args := [], vararg := none, kwonlyargs := [], kw_defaults := [], kwarg := none, defaults := [] }
def defBody (s : Stmt) : List Stmt := match s with
  | .FunctionDef _ _ b _ _ _ _ _ _ _ => b
  | _ => []
def defScope (s : Stmt) : Scope := match s with
  | .FunctionDef _ _ _ _ _ _ sc _ _ _ => sc
  | _ => { kind := .function, names := [], isGenerator := false, isCoroutine := false }

/-! ### no exception leaves a def -/
abbrev CX0 : CXT := fun _ _ _ _ _ _ => False
abbrev E0 : XK := fun _ _ _ => False
theorem pass0 {X : Cx} : Passes CX0 X E0 := fun _ _ _ _ _ _ _ h => h.elim

/-! ### a def (or method) of the text as it stands behind the top -/
structure Fun (K : PySem.W.Frag) (x qual : Str) (st : Stmt) (f : Addr) (fd : FuncData) : Prop where
  ex : ∃ (oc : Value) (od : Option Addr) (kV doc pm : Value) (an : Option Addr) (cdv ct : Value) (osl : Array (Option Value)),
    fd = PySem.W.fnOf x qual (defArgs st) (defBody st) (defScope st) .none kV doc pm an cdv ct ∧ K.lookup f = some ⟨oc, od, .func fd, osl⟩ ∧ PySem.W.codeIn K cdv qual = true
  kp : PySem.W.keepIn K (.ref f) = true
section
variable {P : Program} {w : World} {K : PySem.W.Frag} {mg : Str → Option Value} {base : Heap}
/-- THE RULE for a def: its body as a term of rules, and the reading of that term -/
theorem Fun.ok {x qual : Str} {st : Stmt} {f : Addr} {fd : FuncData} {N ps : List Str} {k : Nat} {sp : Sp} (F : Fun K x qual st f fd) (S : FnScope N ps (defScope st)) (len : ∀ vs H Q E, sp vs H Q E → vs.length = ps.length)
    (hbody : ∀ (cdv : Value) (A : Around) (outer : List Env) (s : Shared) (H : Hp) (vs : List V) (Q : VK) (E : XK), Room k (A.deeper (envOfC qual (defScope st) s.heap.objs.size f cdv)) → sp vs H Q E →
      ∃ t, PSs (cxOf CX0 P w K mg base N qual (defScope st) f cdv A outer s H E).nox (defBody st) t ∧ t { nx := fun _ H' => Q .non H', rt := Q } (start N vs) H) : FnOk P w K mg base CX0 (k + 1) f fd ps sp := by
  obtain ⟨oc, od, kV, doc, pm, an, cdv, ct, osl, rfl, lk, hcd⟩ := F.ex
  refine fn_of lk hcd S len fun A outer s H vs Q E hr hsp => ?_
  obtain ⟨t, h, q⟩ := hbody cdv A outer s H vs Q E hr hsp
  exact ⟨t, h.nox, q⟩
/-- how its arguments bind (no defaults): h is «fun _ _ _ _ _ _ us hl => match us, hl with | [_, _], _ => rfl», one _ a parameter -/
theorem Fun.binds {x qual : Str} {st : Stmt} {f : Addr} {fd : FuncData} {ps : List Str} (F : Fun K x qual st f fd)
    (h : ∀ (kV doc pm : Value) (an : Option Addr) (cdv ct : Value) (us : List Value), us.length = ps.length → bindArgs (PySem.W.fnOf x qual (defArgs st) (defBody st) (defScope st) .none kV doc pm an cdv ct) ⟨us, []⟩ = pure (ps.zip us)) : Binds K fd ps [] := by
  obtain ⟨oc, od, kV, doc, pm, an, cdv, ct, osl, rfl, lk, hcd⟩ := F.ex
  exact .all (h kV doc pm an cdv ct)
theorem fun_mk {x qual : Str} {st : Stmt} {f : Addr} {oc : Value} {od an : Option Addr} {osl : Array (Option Value)} {kV doc pm cdv ct : Value} (l : K.lookup f = some ⟨oc, od, .func (PySem.W.fnOf x qual (defArgs st) (defBody st) (defScope st) .none kV doc pm an cdv ct), osl⟩)
    (c : PySem.W.codeIn K cdv qual = true) (k : PySem.W.keepIn K (.ref f) = true) : Fun K x qual st f (PySem.W.fnOf x qual (defArgs st) (defBody st) (defScope st) .none kV doc pm an cdv ct) := ⟨⟨oc, od, kV, doc, pm, an, cdv, ct, osl, rfl, l, c⟩, k⟩
end
/-! ### expressions in short: the name that stands in the i-th slot -/
section
variable {X : Cx}
theorem pv (i : Nat) {x : Str} {pos : Pos} (hN : X.N[i]? = some x := by rfl) (hv : Vis X.env.scope x := by first | exact Or.inl rfl | exact Or.inr (Or.inl rfl) | exact Or.inr (Or.inr rfl)) (hd : (x == ("__debug__" : Str)) = false := by decide)
    (hcd : (x == ("__classdict__" : Str)) = false := by decide) : PE X (.Name x pos) (tVar i) := pe_var hN hv hd hcd
end

/-! ### tests -/
theorem iteF {A B : Prop} (h : B) : if false = true then A else B := by
  rw [if_neg Bool.false_ne_true]
  exact h
theorem iteT {A B : Prop} (h : A) : if true = true then A else B := by
  rw [if_pos rfl]
  exact h
theorem ite2 {c A B : Prop} [Decidable c] (h1 : c → A) (h2 : ¬ c → B) : if c then A else B := by
  by_cases h : c
  · rw [if_pos h]
    exact h1 h
  · rw [if_neg h]
    exact h2 h
/-! ### heaps -/
/-- all that was tracked is as it was -/
def Same (H H' : Hp) : Prop := ∀ b o, H b = some o → H' b = some o
theorem Same.refl (H : Hp) : Same H H := fun _ _ h => h
theorem Same.trans {H H1 H2 : Hp} (a : Same H H1) (b : Same H1 H2) : Same H H2 := fun c o h => b c o (a c o h)
theorem Same.free {H H' : Hp} (e : Same H H') {l : Addr} (h : H' l = Option.none) : H l = Option.none := by
  cases q : H l with
  | none => rfl
  | some o =>
    rw [e l o q] at h
    cases h
theorem Same.seq {K : PySem.W.Frag} {H H' : Hp} {a : Addr} {xs : List V} (e : Same H H') (h : SqL K H a xs) : SqL K H' a xs := by
  rcases h with (h | ⟨o, h⟩) | h
  · exact .inl (.inl (e _ _ h))
  · exact .inl (.inr ⟨o, e _ _ h⟩)
  · exact .inr h

end L2
end
section
/-! COMPREHENSIONS over the hand layer: the block as a context of its own. -/
namespace L2
open PySem PySem.Spec PyProof.Rows
set_option maxHeartbeats 4000000
set_option Elab.async false
set_option linter.unusedVariables false

/-! ### the names of a block -/
theorem relab_free {env : Env} : ∀ {ns : List (Str × NameKind)} {x : Str}, ns.lookup x = some .free →
    (ns.map fun (n, k) => if (k == NameKind.free && env.scope.kind == .function && env.kindOf n == some .cell) then (n, NameKind.cell) else (n, k)).lookup x = some .cell ∨
    (ns.map fun (n, k) => if (k == NameKind.free && env.scope.kind == .function && env.kindOf n == some .cell) then (n, NameKind.cell) else (n, k)).lookup x = some .free
  | [], _, h => by simp at h
  | (n, k) :: r, x, h => by
    rw [List.map_cons]
    by_cases e : (x == n) = true
    · rw [List.lookup_cons, e] at h
      have hk : k = .free := by simpa using h
      subst hk
      by_cases q : (NameKind.free == NameKind.free && env.scope.kind == .function && env.kindOf n == some .cell) = true
      · left; dsimp only; rw [if_pos q, List.lookup_cons, e]
      · right; dsimp only; rw [if_neg q, List.lookup_cons, e]
    · have e' : (x == n) = false := by simpa using e
      rw [List.lookup_cons, e'] at h
      have ih := relab_free (env := env) h
      dsimp only
      split <;> (rw [List.lookup_cons, e']; exact ih)
theorem relab_back {env : Env} : ∀ {ns : List (Str × NameKind)} {x : Str} {k : NameKind}, (∀ y ∈ ns, y.2 ≠ .cell) → (k = .cell ∨ k = .free) →
    (ns.map fun (n, k) => if (k == NameKind.free && env.scope.kind == .function && env.kindOf n == some .cell) then (n, NameKind.cell) else (n, k)).lookup x = some k → (x, NameKind.free) ∈ ns
  | [], _, _, _, _, h => by simp at h
  | (n, k') :: r, x, k, nc, hk, h => by
    rw [List.map_cons] at h
    have ih := relab_back (env := env) (ns := r) (x := x) (k := k) (fun y hy => nc y (List.mem_cons_of_mem _ hy)) hk
    by_cases e : (x == n) = true
    · have ex : x = n := by simpa using e
      subst ex
      by_cases q : (k' == NameKind.free && env.scope.kind == .function && env.kindOf x == some .cell) = true
      · have : k' = .free := by
          cases k' <;> first | rfl | (simp at q)
        subst this
        exact List.mem_cons_self
      · dsimp only at h
        rw [if_neg q, List.lookup_cons, e] at h
        have : k' = k := by simpa using h
        subst this
        rcases hk with z | z
        · exact absurd z (nc (x, k') List.mem_cons_self)
        · subst z; exact List.mem_cons_self
    · have e' : (x == n) = false := by simpa using e
      refine List.mem_cons_of_mem _ (ih ?_)
      dsimp only at h
      split at h <;> (rw [List.lookup_cons, e'] at h; exact h)

/-! ### what a block closes over -/
theorem clos_step {env : Env} : ∀ (ns : List (Str × NameKind)) (acc : List (Str × Addr)), (∀ y ∈ ns, y.2 = .free → ∃ c, env.cells.lookup y.1 = some c) →
    (∀ x c, acc.lookup x = some c → env.cells.lookup x = some c) →
    ∃ cl : List (Str × Addr), (forIn ns acc fun x r => (match x with | (name, kind) => if (kind == NameKind.free) = true then do let c ← cellOf env name; pure (ForInStep.yield ((name, c) :: r)) else pure (ForInStep.yield r) : Sem (ForInStep (List (Str × Addr)))) : Sem (List (Str × Addr))) = pure cl ∧
      (∀ x c, cl.lookup x = some c → env.cells.lookup x = some c) ∧ (∀ x, (x, NameKind.free) ∈ ns → ∃ c, cl.lookup x = some c) ∧ ∀ x c, acc.lookup x = some c → ∃ c', cl.lookup x = some c'
  | [], acc, _, hacc => ⟨acc, rfl, hacc, fun _ h => absurd h (by simp), fun x c h => ⟨c, h⟩⟩
  | (n, k) :: r, acc, hfr, hacc => by
    by_cases q : (k == NameKind.free) = true
    · have hk : k = .free := by cases k <;> first | rfl | (simp at q)
      subst hk
      obtain ⟨c, hc⟩ := hfr (n, .free) List.mem_cons_self rfl
      have hof : cellOf env n = pure c := by unfold cellOf; rw [hc]
      obtain ⟨cl, h1, h2, h3, h4⟩ := clos_step (env := env) r ((n, c) :: acc) (fun y hy => hfr y (List.mem_cons_of_mem _ hy)) (fun x c' h => by
        by_cases e : (x == n) = true
        · have ex : x = n := by simpa using e
          subst ex
          rw [List.lookup_cons, e] at h
          have : c = c' := by simpa using h
          rw [← this]; exact hc
        · have e' : (x == n) = false := by simpa using e
          rw [List.lookup_cons, e'] at h
          exact hacc x c' h)
      refine ⟨cl, ?_, h2, fun x hx => ?_, fun x c' h => ?_⟩
      · rw [List.forIn_cons]
        dsimp only
        rw [if_pos q, hof]
        exact h1
      · rcases List.mem_cons.mp hx with e | e
        · cases e
          exact h4 n c (by simp)
        · exact h3 x e
      · by_cases e : (x == n) = true
        · have ex : x = n := by simpa using e
          subst ex
          exact h4 x c (by simp)
        · have e' : (x == n) = false := by simpa using e
          exact h4 x c' (by rw [List.lookup_cons, e']; exact h)
    · obtain ⟨cl, h1, h2, h3, h4⟩ := clos_step (env := env) r acc (fun y hy => hfr y (List.mem_cons_of_mem _ hy)) hacc
      refine ⟨cl, ?_, h2, fun x hx => ?_, h4⟩
      · rw [List.forIn_cons]
        dsimp only
        rw [if_neg q]
        exact h1
      · rcases List.mem_cons.mp hx with e | e
        · cases e
          exact absurd rfl q
        · exact h3 x e
theorem clos_of {env : Env} {scope : Scope} (hfr : ∀ y ∈ scope.names, y.2 = .free → ∃ c, env.cells.lookup y.1 = some c) :
    ∃ cl : List (Str × Addr), closureFor scope env = pure cl ∧ (∀ x c, cl.lookup x = some c → env.cells.lookup x = some c) ∧ ∀ x, (x, NameKind.free) ∈ scope.names → ∃ c, cl.lookup x = some c := by
  obtain ⟨cl, h1, h2, h3, _⟩ := clos_step (env := env) scope.names [] hfr (fun x c h => by simp at h)
  refine ⟨cl, ?_, h2, h3⟩
  unfold closureFor
  dsimp only
  rw [h1]
  rfl

/-! ### the block -/
/-- the outer names' values, behind nt targets -/
def inner (nt : Nat) (js : List Nat) (σ : St) : St := List.replicate nt none ++ js.map fun j => (σ[j]?).join
/-- the context of the block -/
def blk (X : Cx) (N : List Str) (scope : Scope) (cl : List (Str × Addr)) (C : Addr) (s : Shared) (H : Hp) (fp : List Addr) : Cx :=
  { X with N := N, s₀ := s, H₀ := H, env := compEnvC scope cl C X.env, outer := X.stack, ex := fp, fn := fun _ => false, pn := [], xe := fun _ _ => False }
/-- what a block asks of the two scopes: sc the outer one, N0 the outer names -/
structure Blk (sc : Scope) (N0 : List Str) (N : List Str) (nt : Nat) (js : List Nat) (scope : Scope) : Prop where
  kind : scope.kind = .function
  loc : ∀ y ∈ scope.names, y.2 = .local → scope.names.lookup y.1 = some .local
  nocell : ∀ y ∈ scope.names, y.2 ≠ .cell
  cap : ∀ y ∈ scope.names, y.2 = .free → sc.names.lookup y.1 = some .cell ∨ sc.names.lookup y.1 = some .free
  len : N.length = nt + js.length
  out : N.drop nt = js.map fun j => N0.getD j ""
  js : ∀ j ∈ js, j < N0.length
  fr : ∀ x ∈ N.drop nt, scope.names.lookup x = some .free
  nd : N.Nodup

theorem inner_get {nt : Nat} {js : List Nat} {σ : St} {i : Nat} {v : V} (h : (inner nt js σ)[i]? = some (some v)) : ∃ k j, i = nt + k ∧ js[k]? = some j ∧ σ[j]? = some (some v) := by
  unfold inner at h
  by_cases hi : i < nt
  · rw [List.getElem?_append_left (by simpa using hi), List.getElem?_replicate, if_pos hi] at h
    cases h
  · rw [List.getElem?_append_right (by simpa using hi), List.length_replicate, List.getElem?_map] at h
    cases e : js[i - nt]? with
    | none => rw [e] at h; cases h
    | some j =>
      rw [e] at h
      refine ⟨i - nt, j, by omega, e, ?_⟩
      have h' : (σ[j]?).join = some v := by simpa using h
      cases e2 : σ[j]? with
      | none => rw [e2] at h'; cases h'
      | some o => rw [e2] at h'; cases o with
        | none => cases h'
        | some w => have : w = v := by simpa using h'
                    rw [this]

section
variable {X : Cx} {pins : List (Addr × Obj)} {σ : St} {H : Hp} {s : Shared} {N : List Str} {nt : Nat} {js : List Nat} {scope : Scope} {cl : List (Str × Addr)} {fp : List Addr}
theorem blk_start {h' : Heap} {tk : Nat} (I : Inv X pins σ H s) (B : Blk X.env.scope X.N N nt js scope)
    (c1 : ∀ x c, cl.lookup x = some c → X.env.cells.lookup x = some c) (c2 : ∀ x, (x, NameKind.free) ∈ scope.names → ∃ c, cl.lookup x = some c)
    (hf : ∀ b ∈ fp, FpOk X pins H b) (hlt : ∀ b ∈ fp, b < s.heap.objs.size)
    (kp : ∀ b o, s.heap.get? b = some o → h'.get? b = some o) (hC : h'.Ns (s.heap.objs.size + 1) fun _ => none)
    (hD : h'.get? s.heap.objs.size = some { cls := .type "list", data := .seq ([] : List Value).toArray 0 }) :
    Inv (blk X N scope cl (s.heap.objs.size + 1) s H fp) [] (inner nt js σ) (upd H s.heap.objs.size (.lst [])) { s with heap := h', toks := tk } := by
  have hfr : ∀ a, s.heap.objs.size ≤ a → H a = none := fun a ha => I.hok.fresh ha
  have cold : ∀ x c, X.env.cells.lookup x = some c → c < s.heap.objs.size := fun x c e => by
    obtain ⟨v, q⟩ := I.cell x c e
    exact q.lt
  refine ⟨⟨I.ok.mod, B.kind, I.ok.glob, I.ok.blt, Nat.le_succ _, fun x y c a b => I.ok.inj x y c (c1 x c a) (c1 y c b), fun x hx => ?_, fun x c z _ => absurd z Bool.false_ne_true, I.ok.hd, I.ok.frames, .inl rfl, fun b hb => ?_, I.bs, Nat.le_trans I.ok.bsz I.sz, fun b o e hb => ?_, fun b hb z => ?_, I.stack, I.stkFree⟩,
    rfl, I.bare, Un.laid kp (Nat.le_refl _) (hfr _ (Nat.le_refl _)), ⟨_, hC, fun i x v h1 h2 h3 => ?_⟩, fun x c e => ?_, ?_, fun x c e => ?_, fun p hp => absurd (show p ∈ ([] : List (Addr × Obj)) from hp) (by simp), I.hok.laid kp (Nat.le_refl _) ⟨Nat.zero_le _, [], 0, .nil, hD⟩, ?_⟩
  · have : (x, NameKind.free) ∈ scope.names := hx.elim (fun z => relab_back B.nocell (.inl rfl) z) fun z => relab_back B.nocell (.inr rfl) z
    exact c2 x this
  · refine ⟨Nat.ne_of_lt (Nat.lt_succ_of_lt (hlt b hb)), fun x c e => (hf b hb).2.2.2.2.1 x c (c1 x c e)⟩
  · rcases (hf b hb).2.2.2.1 with z | z
    · exact I.ok.noex b o e z
    · exact absurd (Nat.lt_of_lt_of_le (Heap.lt_size (I.ok.bs b o e).1) z) (Nat.lt_irrefl _)
  · rcases List.mem_cons.mp (I.stkSub b z) with q | q
    · exact (hf b hb).2.1 q
    · exact (hf b hb).2.2.1 q
  · obtain ⟨k, j, rfl, hk, hv⟩ := inner_get h2
    have hkl : k < js.length := (List.getElem?_eq_some_iff.mp hk).1
    have h1' : (N.drop nt)[k]? = some x := by rw [List.getElem?_drop]; exact h1
    have hxm : x ∈ N.drop nt := List.mem_of_getElem? h1'
    have hfree : scope.names.lookup x = some .free := B.fr x hxm
    have hj : X.N[j]? = some x := by
      rw [B.out, List.getElem?_map, hk] at h1'
      have hjl : j < X.N.length := B.js j (List.mem_of_getElem? hk)
      rw [List.getElem?_eq_getElem hjl]
      have e : X.N.getD j "" = x := by simpa using h1'
      rw [← e]
      simp [List.getD_eq_getElem?_getD, List.getElem?_eq_getElem hjl]
    have hcap := B.cap _ (PySem.mem_of_lookup hfree) rfl
    obtain ⟨m, hn, hl⟩ := I.loc
    obtain ⟨u, ru, lk⟩ := hl j x v hj hv (hcap.elim (fun z => .inr (.inl z)) fun z => .inr (.inr z))
    refine ⟨u, ru, .inr ⟨relab_free hfree, ?_⟩⟩
    rcases lk with ⟨z, _⟩ | ⟨_, c, e, q⟩
    · exact absurd (show X.env.scope.names.lookup x = some .local from z) (by rcases hcap with y | y <;> (rw [y]; decide))
    · obtain ⟨c', e'⟩ := c2 x (PySem.mem_of_lookup hfree)
      have ec := c1 x c' e'
      rw [e] at ec
      cases ec
      obtain ⟨o, ho, hd⟩ := q
      exact ⟨c, e', o, kp c o ho, hd⟩
  · obtain ⟨v, o, ho, hd⟩ := I.cell x c (c1 x c e)
    exact ⟨v, o, kp c o ho, hd⟩
  · show upd H _ _ (s.heap.objs.size + 1) = none
    rw [upd_ne (Nat.ne_of_gt (Nat.lt_succ_self _))]
    exact hfr _ (Nat.le_succ _)
  · show upd H _ _ c = none
    rw [upd_ne (Nat.ne_of_lt (cold x c (c1 x c e)))]
    exact I.freeC x c (c1 x c e)
  · show (inner nt js σ).length = N.length
    unfold inner
    rw [List.length_append, List.length_replicate, List.length_map, B.len]
end

/-! ### the tests of a clause -/
def PTs (X : Cx) (ifs : List Expr) (t : TT) : Prop :=
  ∀ (pins : List (Addr × Obj)) (s : Shared) (σ : St) (H : Hp) (Q : Bool → Hp → Prop), Inv X pins σ H s → t σ H Q →
    wpAny (model X.prog X.w) X.A (forIn ifs true fun c r => if r = true then do let ok ← isTrue c X.env (eval c X.env); pure (ForInStep.yield ok) else pure (ForInStep.yield r)) (TP X pins σ Q) X.xe s
def tYes : TT := fun _ H Q => Q true H
theorem pts_nil {X : Cx} : PTs X [] tYes := fun _ _ _ H _ I h => wpAny_tests_nil ⟨H, I, h⟩
theorem pts_one {X : Cx} {c : Expr} {t : TT} (h : PT X c t) : PTs X [c] t := fun pins s σ H Q I q => wpAny_tests_one (h pins s σ H Q I q)

/-! ### the loop -/
section
variable {prog : Program} {w : World} {A : Around} {s : Shared} {R : Result → Shared → Prop}
theorem comp_turns {elt tg iter : Expr} {ifs : List Expr} {scope : Scope} {pos : Pos} {it acc : Value} {env : Env} (J : Nat → Shared → Prop)
    (turn : ∀ n s, J n s → wpAny (model prog w) A (pyNext it) (fun r s1 => match r with
      | none => R (.ok .next) s1
      | some v => wpAny (model prog w) A (letOwnedTupleGo tg it v) (fun _ s2 => wpAny (model prog w) A (assign tg env v) (fun _ s3 =>
          wpAny (model prog w) A (forIn ifs true fun c r => if r = true then do let ok ← isTrue c env (eval c env); pure (ForInStep.yield ok) else pure (ForInStep.yield r)) (fun ok s4 =>
            if ok = true then wpAny (model prog w) A (eval elt env) (fun x s5 => wpAny (model prog w) A (call (.builtin "list.append") [acc, x]) (fun _ s6 => ∃ m, m < n ∧ J m s6) (fun _ _ => False) s5) (fun _ _ => False) s4
            else ∃ m, m < n ∧ J m s4) (fun _ _ => False) s3) (fun _ _ => False) s2) (fun _ _ => False) s1) (fun _ _ => False) s)
    (n : Nat) (h : J n s) : codeAny (model prog w) A (.compLoop (.ListComp elt [⟨tg, iter, ifs, 0⟩] scope pos) 0 it acc env) R s := by
  refine codeAny_loop rfl J (fun k s' hJ => ?_) n h
  show wpAny _ A ((compTurn (.ListComp elt [⟨tg, iter, ifs, 0⟩] scope pos) 0 it acc env).onRaise (fun x => do noteFrame x env; theTreesLotGoes x)) _ _ s'
  refine wpAny_noted ?_
  rw [compTurn_list]
  refine wpAny_bind (wpAny_standAt (wpAny_bind (wpAny_mono (turn k s' hJ) (fun r s1 q1 => ?_) fun _ _ z => z.elim)))
  cases r with
  | none => exact wpAny_pure q1
  | some v =>
    refine wpAny_bind (wpAny_mono q1 (fun _ s2 q2 => wpAny_bind (wpAny_mono q2 (fun _ s3 q3 => wpAny_bind (wpAny_mono q3 (fun ok s4 q4 => ?_) fun _ _ z => z.elim)) fun _ _ z => z.elim)) fun _ _ z => z.elim)
    cases ok with
    | false => exact wpAny_pure ⟨rfl, q4⟩
    | true => exact wpAny_bind (wpAny_bind (wpAny_mono q4 (fun x s5 q5 => wpAny_bind (wpAny_mono q5 (fun _ s6 q6 => wpAny_pure (wpAny_pure ⟨rfl, q6⟩)) fun _ _ z => z.elim)) fun _ _ z => z.elim))
end

/-! ### THE RULE -/
/-- W: the invariant by the turn and a measure; D: the new list -/
def cmpW (J : It) (g : TG) (tt : TT) (te : TE) (Q : VK) (D : Addr) (σ0 : St) (H1 : Hp) : Prop := ∃ W : Nat → Nat → St → Hp → Prop, (∃ m, W 0 m σ0 (upd H1 D (.lst []))) ∧
  ∀ i m σ' H', W i m σ' H' → (J.stop i H' ∧ Q (.ref D) H') ∨ (J.go i H' ∧ ∀ x H2, J.yld i H' x H2 → g x σ' H2 fun σ3 H3 => tt σ3 H3 fun ok H4 =>
    if ok = true then te σ3 H4 fun y H5 => ∃ ys, H5 D = some (.lst ys) ∧ ys.length < sizeLine ∧ ∃ m', m' < m ∧ W (i + 1) m' σ3 (upd H5 D (.lst (ys ++ [y]))) else ∃ m', m' < m ∧ W (i + 1) m' σ3 H4)
def tComp (nt : Nat) (js : List Nat) (wi : TI) (g : TG) (tt : TT) (te : TE) : TE := fun σ H Q => wi σ H fun J H1 => ∀ D, H1 D = none → cmpW J g tt te Q D (inner nt js σ) H1
theorem pe_comp {X : Cx} {elt tg iter : Expr} {ifs : List Expr} {scope : Scope} {pos : Pos} {N : List Str} {nt : Nat} {js : List Nat} {sc : Scope} {N0 : List Str} {wi : TI} {g : TG} {tt : TT} {te : TE}
    (hc : X.calm = true) (hsc : X.env.scope = sc) (hN : X.N = N0) (B : Blk sc N0 N nt js scope) (hi : PI X tg iter wi)
    (hg : ∀ cl C s H fp, PG (blk X N scope cl C s H fp) tg g) (ht : ∀ cl C s H fp, PTs (blk X N scope cl C s H fp) ifs tt) (he : ∀ cl C s H fp, PE (blk X N scope cl C s H fp) elt te)
    (hs : ∀ x, foldedSetIterable iter X.env x = pure x := by intro _; rfl) : PE X (.ListComp elt [⟨tg, iter, ifs, 0⟩] scope pos) (tComp nt js wi g tt te) := by
  subst hsc hN
  intro pins s σ H Q I h
  obtain ⟨cl, hcl, c1, c2⟩ := clos_of (env := X.env) (scope := scope) fun y hy hk => I.ok.has y.1 (B.cap y hy hk)
  rw [eval_ListComp]
  refine wpAny_comprehension_free (use := none) rfl hs hcl B.kind B.loc (thn (hi pins s σ H _ I h) fun v s1 q1 => thn q1 fun itv s2 q2 => ?_)
  obtain ⟨it, fp, tn, J, H2, e, I2, T, st2, f2, q2⟩ := q2
  subst e
  obtain ⟨W, ⟨m0, w0⟩, turn⟩ := q2 s2.heap.objs.size (I2.hok.fresh (Nat.le_refl _))
  have hlt : ∀ b ∈ fp, b < s2.heap.objs.size := fun b hb => by
    obtain ⟨o, eo, _⟩ := T.obj _ _ st2 b hb
    exact Heap.lt_size eo
  refine wpAny_newObj_type (wpAny_newFunctionEnv B.nocell (by intro y hy; simp at hy) (fun h1 hns hsb => ?_) B.kind)
  dsimp only at hns hsb ⊢
  have hsz : (s2.heap.push { cls := .type "list", dict := none, data := .seq ([] : List Value).toArray }).objs.size = s2.heap.objs.size + 1 := by rw [Heap.size_push]
  have old : ∀ b o, s2.heap.get? b = some o → h1.get? b = some o := fun b o eb => hsb.extBut b o (by rw [hsz]; exact Nat.ne_of_lt (Nat.lt_succ_of_lt (Heap.lt_size eb))) (Heap.get?_push_of_some _ (Heap.get?_push_of_some _ eb))
  have hD : h1.get? s2.heap.objs.size = some { cls := .type "list", data := .seq ([] : List Value).toArray 0 } := hsb.extBut _ _ (by rw [hsz]; exact Nat.ne_of_lt (Nat.lt_succ_self _)) (Heap.get?_push_of_some _ (Heap.get?_push_size _ rfl))
  rw [hsz] at hns
  have I3 := blk_start (cl := cl) (fp := fp) (tk := s2.toks + ([] : List (Str × Value)).length) I2 B c1 c2 f2 hlt old (show h1.Ns (s2.heap.objs.size + 1) fun _ => none from hns) hD
  have stat : ∀ {H' : Hp}, (∀ b ∈ fp, H' b = none) → ∀ b ∈ fp, FpOk (blk X N scope cl (s2.heap.objs.size + 1) s2 H2 fp) [] H' b := fun {H'} hn b hb =>
    ⟨hn b hb, Nat.ne_of_lt (Nat.lt_succ_of_lt (hlt b hb)), fun z => (List.mem_cons.mp (I2.stkSub b z)).elim (f2 b hb).2.1 (f2 b hb).2.2.1, .inl hb, fun x c ec => (f2 b hb).2.2.2.2.1 x c (c1 x c ec), fun p hp => absurd (show p ∈ ([] : List (Addr × Obj)) from hp) (by simp)⟩
  have fin : ∀ {i : Nat} {σ' : St} {H' : Hp} {s' : Shared}, Inv (blk X N scope cl (s2.heap.objs.size + 1) s2 H2 fp) [] σ' H' s' → Q (.ref s2.heap.objs.size) H' →
      compPost (model X.prog X.w) X.A X.xe none (EP X pins σ Q) (.ref s2.heap.objs.size) (s2.heap.objs.size + 1) (.ok .next) s' := fun {i σ' H' s'} Ib q => by
    obtain ⟨m, hn, _⟩ := id Ib.loc
    refine ⟨m, hn, fun h'' hs'' => ?_⟩
    have I4 : Inv X pins σ H' s' := I2.call' Ib.os Ib.base Ib.hok Ib.bare fun b hb => ⟨(f2 b hb).2.2.2.1, (f2 b hb).2.1, (f2 b hb).2.2.2.2.1, (f2 b hb).2.2.2.2.2⟩
    obtain ⟨g0, g1, g2, g3, g4, g5⟩ := I2.fpOk (H' := H') (Nat.le_succ _) Ib.free
    exact ⟨.ref s2.heap.objs.size, H', I4.turned (t' := s'.toks) (fun b o hb eb => hs''.extBut b o hb eb) g0 g1 g3 g4 g5, rfl, q⟩
  have loop : codeAny (model X.prog X.w) X.A (.compLoop (.ListComp elt [⟨tg, iter, ifs, 0⟩] scope pos) 0 (.ref it) (.ref s2.heap.objs.size) (compEnvC scope cl (s2.heap.objs.size + 1) X.env))
      (compPost (model X.prog X.w) X.A X.xe none (EP X pins σ Q) (.ref s2.heap.objs.size) (s2.heap.objs.size + 1)) { s2 with heap := h1, toks := s2.toks + ([] : List (Str × Value)).length } := by
    refine comp_turns (fun n s' => ∃ i σ' H', Inv (blk X N scope cl (s2.heap.objs.size + 1) s2 H2 fp) [] σ' H' s' ∧ tn i s'.heap ∧ (∀ b ∈ fp, H' b = none) ∧ W i n σ' H') ?_ m0
      ⟨0, _, _, I3, T.keep _ _ _ st2 fun b _ o eb => old b o eb, fun b hb => ?_, w0⟩
    · rintro n s3 ⟨i, σ3, H3, J3, st3, fr3, w3⟩
      rcases turn i n σ3 H3 w3 with ⟨stop, qn⟩ | ⟨go, step⟩
      · refine thn (T.done (blk X N scope cl (s2.heap.objs.size + 1) s2 H2 fp) rfl rfl rfl hc i [] s3 σ3 H3 _ J3 (stat fr3) st3 stop) fun r s4 ⟨hr, I4⟩ => ?_
        subst hr
        exact fin (i := i) I4 qn
      · refine thn (T.item (blk X N scope cl (s2.heap.objs.size + 1) s2 H2 fp) rfl rfl rfl hc i [] s3 σ3 H3 _ J3 (stat fr3) st3 go) fun r s4 ⟨u, hr, h4⟩ => ?_
        subst hr
        refine thn h4 fun _ s5 ⟨x, H5, I5, r5, y5, st5, fr5⟩ => ?_
        have I5' := I5.pinned (stat fr5) (T.obj _ _ st5)
        refine thn (hg _ _ _ _ _ _ s5 σ3 H5 x u _ I5' r5 (step x H5 y5)) fun _ s6 ⟨σ6, H6, I6, q6⟩ => ?_
        have again : ∀ {σ7 : St} {H7 : Hp} {s7 : Shared} {k : Nat}, Inv (blk X N scope cl (s2.heap.objs.size + 1) s2 H2 fp) ([] ++ pinsAt fp s5.heap) σ7 H7 s7 → k < n → W (i + 1) k σ7 H7 →
            ∃ k, k < n ∧ ∃ i σ' H', Inv (blk X N scope cl (s2.heap.objs.size + 1) s2 H2 fp) [] σ' H' s7 ∧ tn i s7.heap ∧ (∀ b ∈ fp, H' b = none) ∧ W i k σ' H' := fun {σ7 H7 s7 k} I7 hk w7 => by
          refine ⟨k, hk, i + 1, σ7, H7, I7.unpinned, T.keep _ _ _ st5 fun b hb o eb => (I7.pin (b, o) (List.mem_append_right _ (List.mem_append_right _ (mem_pinsAt hb eb)))).1, fun b hb => ?_, w7⟩
          obtain ⟨o, eb, _⟩ := T.obj _ _ st5 b hb
          exact (I7.pin (b, o) (List.mem_append_right _ (List.mem_append_right _ (mem_pinsAt hb eb)))).2.1
        refine thn (ht _ _ _ _ _ _ s6 σ6 H6 _ I6 q6) fun ok s7 ⟨H7, I7, q7⟩ => ?_
        cases ok with
        | false =>
          rw [if_neg Bool.false_ne_true] at q7 ⊢
          obtain ⟨k, hk, w7⟩ := q7
          exact again I7 hk w7
        | true =>
          rw [if_pos rfl] at q7 ⊢
          refine thn (he _ _ _ _ _ _ s7 σ6 H7 _ I7 q7) fun y s8 ⟨v8, H8, I8, r8, ys, e8, z8, k, hk, w8⟩ => ?_
          refine thn (mt_append _ s8 σ6 H8 (.ref s2.heap.objs.size) [v8] _ [y] (fun _ H9 => W (i + 1) k σ6 H9) I8 rfl (.cons r8 .nil) ⟨_, ys, v8, rfl, rfl, e8, z8, w8⟩) fun _ s9 ⟨_, H9, I9, _, w9⟩ => ?_
          exact again I9 hk w9
    · show upd H2 _ _ b = none
      rw [upd_ne (Nat.ne_of_lt (hlt b hb))]
      exact (f2 b hb).1
  rw [hsz]
  exact codeAny_compStart_list loop (T.self _ 0 _ _ _ (T.keep _ _ _ st2 fun b _ o eb => old b o eb) loop)
end L2
end
section
/-! SMALL RULES over the hand layer. -/
namespace L2
open PySem PySem.Spec PyProof.Rows
set_option maxHeartbeats 4000000
set_option Elab.async false
set_option linter.unusedVariables false

section
variable {X : Cx}
/-! ### is True, is False -/
/-! ### isinstance of a built-in type -/
/-- what a value is, by the abstract heap -/
inductive Kn (H : Hp) : V → String → Prop where
  | non : Kn H .non "NoneType"
  | bl (b : Bool) : Kn H (.bl b) "bool"
  | int (i : Int) : Kn H (.int i) "int"
  | str (x : Str) : Kn H (.str x) "str"
  | lst {a : Addr} {xs : List V} (e : H a = some (.lst xs)) : Kn H (.ref a) "list"
  | tup {a : Addr} {xs : List V} (e : H a = some (.tup xs)) : Kn H (.ref a) "tuple"
  | dK {a : Addr} {kvs : List (Key × V)} (e : H a = some (.dK kvs)) : Kn H (.ref a) "dict"
theorem Kn.ty {K : PySem.W.Frag} {H : Hp} {v : V} {T : String} (h : Kn H v T) : TyOf K H v (.type T) := by
  cases h with
  | non => exact .non
  | bl b => exact .bl b
  | int i => exact .int i
  | str x => exact .str x
  | lst e => exact .lst e
  | tup e => exact .tup e
  | dK e => exact .dK e
def subT (T U : String) : Bool := T == U || (T == "bool" && U == "int")
theorem kit_int {K : PySem.W.Frag} {H : Hp} {v : V} {T : String} (h : Kn H v T) : PySem.W.kitOne K (.type T) (.type "int") = some (subT T "int") := by
  cases h <;> rfl
theorem kit_bool {K : PySem.W.Frag} {H : Hp} {v : V} {T : String} (h : Kn H v T) : PySem.W.kitOne K (.type T) (.type "bool") = some (subT T "bool") := by
  cases h <;> rfl
theorem kit_tuple {K : PySem.W.Frag} {H : Hp} {v : V} {T : String} (h : Kn H v T) : PySem.W.kitOne K (.type T) (.type "tuple") = some (subT T "tuple") := by
  cases h <;> rfl
theorem kit_list {K : PySem.W.Frag} {H : Hp} {v : V} {T : String} (h : Kn H v T) : PySem.W.kitOne K (.type T) (.type "list") = some (subT T "list") := by
  cases h <;> rfl
theorem call_isi : CallR X (.builtin "isinstance") (fun xs H Q => ∃ x T U, xs = [x, .ty U] ∧ Kn H x T ∧ (U = "int" ∨ U = "bool" ∨ U = "tuple" ∨ U = "list") ∧ Q (.bl (subT T U)) H) := by
  intro pins s σ H xs us Q I r h
  obtain ⟨x, T, U, rfl, hk, hU, q⟩ := h
  obtain ⟨u, c, rfl, rx, rc⟩ := vals2 r
  cases (show c = Value.type U from rc)
  refine isinst_ok I rx hk.ty (b := subT T U) ?_ fun tk => ⟨.bl (subT T U), H, I.tok tk, rfl, q⟩
  rcases hU with rfl | rfl | rfl | rfl
  · exact kit_int hk
  · exact kit_bool hk
  · exact kit_tuple hk
  · exact kit_list hk

/-! ### all of a list of bools -/
theorem call_allB (hc : X.calm = true) : CallR X (.builtin "all") (fun xs H Q => ∃ (p : Addr) (bs : List Bool), xs = [.ref p] ∧ SqL X.K H p (bs.map V.bl) ∧ Q (.bl (bs.all id)) H) := by
  intro pins s σ H xs us Q I r h
  obtain ⟨p, bs, rfl, hq, q⟩ := h
  obtain ⟨u, rfl, rx⟩ := vals1 r
  cases (show u = Value.ref p from rx)
  obtain ⟨its, r', pl, hz⟩ := I.list hq
  have hsz : its.length = bs.length := by have := r'.length; rw [List.length_map] at this; exact this.symm
  refine call_all_walk (wpAny_pyIter_list pl.isList ?_)
  have hne : p ≠ s.heap.objs.size := by
    obtain ⟨o, ho, _⟩ := pl.isList
    exact Nat.ne_of_lt (Heap.lt_size ho)
  refine ⟨_, _, _, its.toArray.size, _, _, fun i => bs.getD i true, rfl, Walks.list (A := X.A.in1) (show X.A.in1.handled = none from I.ok.hd hc) s.heap.objs.size p hne its.toArray, ⟨⟨_, Heap.get?_push_size _ rfl, rfl, rfl⟩, pl.isList.push _⟩, ?_, ?_⟩
  · intro i v s' Q' E' hP hQ
    have hv : its[i]? = some v := by simpa using hP
    have hi : i < its.length := (List.getElem?_eq_some_iff.mp hv).1
    have hb : (bs.map V.bl)[i]? = some (V.bl (bs.getD i true)) := by
      rw [List.getElem?_map, List.getElem?_eq_getElem (by omega)]
      simp [List.getD_eq_getElem?_getD, List.getElem?_eq_getElem (show i < bs.length by omega)]
    obtain ⟨w', hw, rw'⟩ := r'.get hb
    rw [hv] at hw
    cases hw
    cases (show v = Value.bool _ from rw')
    exact wpAny_truthy_bool hQ
  · intro h' tk hk
    have e : (List.range its.toArray.size).all (fun i => bs.getD i true) = bs.all id := by
      rw [List.size_toArray, hsz]
      rw [Bool.eq_iff_iff, List.all_eq_true, List.all_eq_true]
      constructor
      · intro h1 x hx
        obtain ⟨i, hi, rfl⟩ := List.getElem_of_mem hx
        have := h1 i (List.mem_range.mpr hi)
        rw [List.getD_eq_getElem?_getD, List.getElem?_eq_getElem hi] at this
        exact this
      · intro h1 i hi
        have hi' := List.mem_range.mp hi
        rw [List.getD_eq_getElem?_getD, List.getElem?_eq_getElem hi']
        exact h1 _ (List.getElem_mem hi')
    rw [e]
    refine ⟨.bl (bs.all id), H, I.kept (t' := tk) fun b o eb => hk b o (fun z => ?_) (Heap.get?_push_of_some _ eb), rfl, q⟩
    have : b = s.heap.objs.size := by simpa using z
    exact absurd (Heap.lt_size eb) (by rw [this]; exact Nat.lt_irrefl _)

/-! ### t + u of any tuples -/
def rCatA (K : PySem.W.Frag) : R2 := fun x y H Q => ∃ a b xs ys, x = .ref a ∧ y = .ref b ∧ H a = some (.tup xs) ∧ H b = some (.tup ys) ∧ xs.length + ys.length ≤ sizeLine ∧
  ∀ p H', Same H H' → H' p = some (.tup (xs ++ ys)) → Q (.ref p) H'
theorem same_new {H : Hp} {p : Addr} (h : H p = none) (o : HO) : Same H (upd H p o) := fun b u q => by rw [upd_ne (ne_of_none q h)]; exact q
theorem op_catA : OpR X (binaryOp .Add) (rCatA X.K) := by
  intro pins s σ H x y v u Q I rx ry h
  obtain ⟨a, b, xs, ys, rfl, rfl, ha, hb, hz, q⟩ := h
  cases (show v = Value.ref a from rx)
  cases (show u = Value.ref b from ry)
  obtain ⟨its, r1, t1, z1⟩ := I.tuple (SqT.of ha)
  obtain ⟨jts, r2, t2, z2⟩ := I.tuple (SqT.of hb)
  have l1 := r1.length
  have l2 := r2.length
  by_cases hx : its = []
  · subst hx
    have ex : xs = [] := List.length_eq_zero_iff.mp l1
    subst ex
    obtain ⟨⟨cls, dd, data, sl⟩, ho, hc, n, hd⟩ := id t1
    obtain ⟨⟨cls2, dd2, data2, sl2⟩, ho2, hc2, n2, hd2⟩ := id t2
    simp only at hc hd hc2 hd2
    subst hc hd hc2 hd2
    exact concat_meets ⟨_, ho, rfl⟩ ⟨_, ho2, rfl⟩ noFill_tuple_add seq_tuple_add PySem.F.slot_tuple_add PySem.F.entry_tuple_add (PySem.F.args_tuple_add_2 _ _)
      (tuple_addW0 a b ([] : List Value).toArray jts.toArray n n2 dd dd2 sl sl2 rfl) ⟨ho, ho2, ⟨.ref b, H, I, rfl, q b H (Same.refl H) hb⟩⟩
  · refine HT.cat_tup t1 t2 hx (fun e => ?_) (fun e => ?_) (by omega)
    · subst e
      have ey : ys = [] := List.length_eq_zero_iff.mp l2
      subst ey
      exact ⟨.ref a, H, I, rfl, q a H (Same.refl H) (by rw [List.append_nil]; exact ha)⟩
    · have fr := I.hok.fresh (Nat.le_refl s.heap.objs.size)
      refine ⟨.ref s.heap.objs.size, _, I.laid (t' := s.toks) (o := .tup (xs ++ ys)) (fun b ob q => Heap.get?_push_of_some _ q) (Nat.le_refl _) ?_, rfl, q _ _ (same_new fr _) upd_same⟩
      exact ⟨by rw [List.length_append]; exact hz, _, r1.append r2, IsTup.new _ _⟩

/-! ### t[lo:hi], the whole too -/
def rSlA : V → Option Int → Option Int → Hp → VK → Prop := fun x lo hi H Q => ∃ a xs, x = .ref a ∧ H a = some (.tup xs) ∧ ∀ p H', Same H H' → H' p = some (.tup (cutV xs lo hi)) → Q (.ref p) H'
end

section
variable {prog : Program} {w : World} {A : Around} {E : Value → Shared → Prop} {s : Shared}
/-- t[k] of a tuple is what the tuple's own code tells -/
theorem tup_at {t : Addr} {items : Array Value} {k : Value} {Q : Value → Shared → Prop} (ht : IsTup s.heap t items)
    (h : wpAny (model prog w) A.in1 (Builtin.«tuple.__getitem__» ⟨[.ref t, k], []⟩) (fun fin s' => ∃ v, fin = .done (.ret v) ∧ Q v s') E s) : wpAny (model prog w) A (getItem (.ref t) k) Q E s := by
  have sl := PyProof.Rows.slot_tuple_getitem
  unfold getItem
  wp_walk using wpAny_sequenceKey ht.typeIs (by decide), wpAny_callSpecial?_slot (name := Str.ofString "__getitem__") ht.typeIs sl (wpAny_call_entry sl ht.typeIs entry_tuple_getitem (wpAny_mono h (fun fin s' ⟨v, e, q⟩ => ⟨v, e, wpAny_pure q⟩) fun _ _ e => e) (args_tuple_getitem _ _))
theorem cut_whole {t sl : Addr} {items : Array Value} {vl vu : Value} {lo hi : Option Int} {Q : Value → Shared → Prop} (ht : IsTup s.heap t items) (hs : s.heap.IsSliceOf sl vl vu .none) (pl : IsPart vl lo) (pu : IsPart vu hi)
    (hw : HT.sIx items.size 0 lo = 0 ∧ HT.sIx items.size items.size hi = items.size) (h : Q (.ref t) s) : wpAny (model prog w) A (getItem (.ref t) (.ref sl)) Q E s := by
  have f1 : s.TypeIs (.ref sl) "slice" := let ⟨o, ho, hc, _⟩ := hs; ⟨o, ho, hc⟩
  have f2 := ht.typeIs
  refine tup_at ht ?_
  wp_walk using tupleItemsOf_ ht, HT.sliceApplied_gen hs pl pu
  exact ⟨_, rfl, h⟩
end

section
variable {X : Cx}
theorem sl_tupA : SlR X rSlA := by
  intro pins s σ H x v vl vu lo hi sl Q I rx hs pl pu h
  obtain ⟨a, xs, rfl, hx, q⟩ := h
  cases (show v = Value.ref a from rx)
  by_cases hw : HT.sIx xs.length 0 lo = 0 ∧ HT.sIx xs.length xs.length hi = xs.length
  · obtain ⟨its, r, ht, hz⟩ := I.tuple (SqT.of hx)
    have hlen : its.toArray.size = xs.length := by rw [List.size_toArray]; exact r.length.symm
    refine ⟨"tuple", _, PyProof.Rows.slot_tuple_getitem.lookup, ht.typeIs, cut_whole ht hs pl pu (by rw [hlen]; exact hw) ⟨.ref a, H, I, rfl, q a H (Same.refl H) ?_⟩⟩
    rw [hx]
    unfold cutV
    rw [hw.1, hw.2, List.drop_zero, Nat.sub_zero, List.take_length]
  · exact sl_tup (X := X) pins s σ H (.ref a) _ vl vu lo hi sl Q I rfl hs pl pu ⟨a, xs, rfl, SqT.of hx, hw, fun p hp => q p _ (same_new hp _) upd_same⟩
end
end L2
end
section
/-! zip(a, b) of two lists or two tuples, walked by a loop or a comprehension with a pair as its target.
The built-ins' own code is walked by `wp_walk`; what is said here is what the heap holds behind it. -/
namespace L2
open PySem PySem.Spec PyProof.Rows
set_option maxHeartbeats 4000000
set_option maxRecDepth 100000
set_option Elab.async false
set_option linter.unusedVariables false

/-- an iterator that zip asks, and what it stands upon -/
structure Nx (P : Program) (w : World) (i l : Addr) (pl : Nat → Heap → Prop) (vs : Array Value) : Prop where
  ne : l ≠ i
  there : ∀ k h, pl k h → (∃ o, h.get? i = some o ∧ (∃ c, o.cls = .type c ∧ (c = "list_iterator" ∨ c = "tuple_iterator")) ∧ ∃ f, o.data = .fields f) ∧ ∃ o, h.get? l = some o ∧ (o.cls = .type "list" ∨ o.cls = .type "tuple")
  keep : ∀ k h h', pl k h → (∀ o, h.get? i = some o → h'.get? i = some o) → (∀ o, h.get? l = some o → h'.get? l = some o) → pl k h'
  item : ∀ (A : Around) k (s : Shared) (Q : Value → Shared → Prop) (E : Value → Shared → Prop) x, pl k s.heap → vs[k]? = some x → (∀ h', pl (k + 1) h' → Heap.SameBut i s.heap h' → Q x { s with heap := h' }) →
    wpAny (model P w) A (Builtin.SmallTypes.nextOf (.ref i)) Q E s
  done : ∀ (A : Around) k (s : Shared) (Q : Value → Shared → Prop) (E : Value → Shared → Prop), A.handled = none → pl k s.heap → vs[k]? = none →
    (∀ h' e, Heap.ExtBut i s.heap h' → (∃ o, h'.get? e = some o ∧ o.cls = .type "StopIteration") → E (.ref e) { s with heap := h' }) → wpAny (model P w) A (Builtin.SmallTypes.nextOf (.ref i)) Q E s

theorem nx_list {P : Program} {w : World} {i l : Addr} (vs : Array Value) (hne : l ≠ i) : Nx P w i l (fun k h => h.IsListIter i l k ∧ h.IsList l vs) vs where
  ne := hne
  there := fun k h ⟨⟨o, e, c, d⟩, ⟨o', e', c', _⟩⟩ => ⟨⟨o, e, ⟨_, c, .inl rfl⟩, _, d⟩, o', e', .inl c'⟩
  keep := fun k h h' ⟨a, b⟩ e1 e2 => ⟨a.at e1, b.at e2⟩
  item := fun A k s Q E x ⟨a, b⟩ hx q => wpAny_nextOf_list_item a b hx fun h' a' sb => q h' ⟨a', b.extBut sb.extBut hne⟩ sb
  done := fun A k s Q E hh ⟨a, b⟩ hx q => wpAny_nextOf_list_end hh a b hx q

/-! ### a tuple's iterator -/
/-- one more item: the code walked -/
theorem tn_item (it t : Addr) (i : Nat) (dc : Option Addr) (sl : Array (Option Value)) (items : Array Value) (x : Value) (hx : items[i]? = some x) :
    Meets (Builtin.«tuple_iterator.__next__» ⟨[.ref it], []⟩) (fun _ R s => s.heap.get? it = some ⟨.type "tuple_iterator", dc, .fields #[.ref t, .int i 0], sl⟩ ∧ s.heap.IsTuple t items ∧
      ∀ h', h'.IsTupleIter it t (i + 1) → Heap.SameBut it s.heap h' → R (.ok (.ret x)) { s with heap := h' }) :=
  .of_wp fun prog w A R s h => by
    obtain ⟨hp, g, d, tk, os⟩ := s
    obtain ⟨h1, ⟨⟨c, dc2, dt, sl2⟩, h2, hc, n, hd⟩, h⟩ := h
    simp only at hc hd
    subst hc hd
    simp only at h1 h2
    wp_walk
    rw [Int.toNat_natCast, hx]
    wp_walk
    exact ⟨_, rfl, h _ ⟨_, Heap.get?_update_self _ h1 rfl, rfl, rfl⟩ (.update ..)⟩
/-- no more items -/
theorem tn_end (it t : Addr) (i : Nat) (dc : Option Addr) (sl : Array (Option Value)) (items : Array Value) (hx : items[i]? = none) :
    Meets (Builtin.«tuple_iterator.__next__» ⟨[.ref it], []⟩) (fun A R s => A.handled = none ∧ s.heap.get? it = some ⟨.type "tuple_iterator", dc, .fields #[.ref t, .int i 0], sl⟩ ∧ s.heap.IsTuple t items ∧
      ∀ h' e, Heap.ExtBut it s.heap h' → (∃ o, h'.get? e = some o ∧ o.cls = .type "StopIteration") → R (.error (.ref e)) { s with heap := h' }) :=
  .of_wp fun prog w A R s h => by
    obtain ⟨hp, g, d, tk, os⟩ := s
    obtain ⟨hh, h1, ⟨⟨c, dc2, dt, sl2⟩, h2, hc, n, hd⟩, h⟩ := h
    simp only at hc hd
    subst hc hd
    simp only at h1 h2
    wp_walk
    rw [Int.toNat_natCast, hx]
    wp_walk
    exact wpAny_raiseNew_none hh (h _ _ (fun b o n e => by repeat (first | exact Heap.get?_update_of_ne _ (Ne.symm n) e | refine Heap.get?_push_of_some _ ?_)) ⟨_, Heap.get?_push_size _ rfl, rfl⟩)
theorem nx_tup {P : Program} {w : World} {i l : Addr} (vs : Array Value) (hne : l ≠ i) : Nx P w i l (fun k h => h.IsTupleIter i l k ∧ h.IsTuple l vs) vs where
  ne := hne
  there := fun k h ⟨⟨o, e, c, d⟩, ⟨o', e', c', _⟩⟩ => ⟨⟨o, e, ⟨_, c, .inr rfl⟩, _, d⟩, o', e', .inr c'⟩
  keep := fun k h h' ⟨a, b⟩ e1 e2 => ⟨a.at e1, b.at e2⟩
  item := fun A k s Q E x ⟨a, b⟩ hx q => by
    obtain ⟨⟨c, dc, dt, sl⟩, e, hc, hd⟩ := a
    simp only at hc hd
    subst hc hd
    have hT : s.TypeIs (.ref i) "tuple_iterator" := ⟨_, e, rfl⟩
    exact wpAny_bind (wpAny_callSpecial?_slot (name := Str.ofString "__next__") hT F.slot_tuple_iterator_next (call_meets F.slot_tuple_iterator_next hT F.entry_tuple_iterator_next (F.args_tuple_iterator_next_1 _)
      (tn_item i l k dc sl vs x hx) ⟨e, b, fun h' a' sb => wpAny_pure (q h' ⟨a', b.extBut sb.extBut hne⟩ sb)⟩))
  done := fun A k s Q E hh ⟨a, b⟩ hx q => by
    obtain ⟨⟨c, dc, dt, sl⟩, e, hc, hd⟩ := a
    simp only at hc hd
    subst hc hd
    have hT : s.TypeIs (.ref i) "tuple_iterator" := ⟨_, e, rfl⟩
    exact wpAny_bind (wpAny_callSpecial?_slot (name := Str.ofString "__next__") hT F.slot_tuple_iterator_next (call_meets F.slot_tuple_iterator_next hT F.entry_tuple_iterator_next (F.args_tuple_iterator_next_1 _)
      (tn_end i l k dc sl vs hx) ⟨hh, e, b, q⟩))

/-! ### a turn of zip -/
section
variable {P : Program} {w : World} {A : Around} {E : Value → Shared → Prop} {s : Shared} {z TI TO i j l m : Addr} {p1 p2 : Nat → Heap → Prop} {xs ys : Array Value} {k : Nat}
theorem zip_item {x y a b : Value} {Q : Option Value → Shared → Prop} (nd : [z, TI, TO, i, j].Nodup) (c1 : l ∉ [z, TI, TO, i, j]) (c2 : m ∉ [z, TI, TO, i, j]) (N1 : Nx P w i l p1 xs) (N2 : Nx P w j m p2 ys)
    (hz : IsZip s.heap z TI TO .none) (hTI : IsPair s.heap TI (.ref i) (.ref j)) (hTO : IsPair s.heap TO a b) (q1 : p1 k s.heap) (q2 : p2 k s.heap) (hx : xs[k]? = some x) (hy : ys[k]? = some y)
    (hQ : ∀ h', IsZip h' z TI TO (rawInt s.heap.objs.size) → IsPair h' TO x y → p1 (k + 1) h' → p2 (k + 1) h' → IsPair h' s.heap.objs.size x y → h'.objs.size = s.heap.objs.size + 1 →
      (∀ c o, c ≠ z → c ≠ TO → c ≠ i → c ≠ j → s.heap.get? c = some o → h'.get? c = some o) → Q (some (.ref s.heap.objs.size)) { s with heap := h' }) :
    wpAny (model P w) A (pyNext (.ref z)) Q E s := by
  simp only [List.nodup_cons, List.mem_cons, List.not_mem_nil, or_false, not_or, not_false_eq_true, and_true, List.nodup_nil] at nd c1 c2
  have hT : s.TypeIs (.ref z) "zip" := ⟨_, hz, rfl⟩
  unfold pyNext
  refine wpAny_bind (wpAny_attempt (wpAny_callSpecial?_slot (name := Str.ofString "__next__") hT F.slot_zip_next (wpAny_call_entry F.slot_zip_next hT F.entry_zip_next ?_ (F.args_zip_next_1 _))))
  obtain ⟨hp, g, d, tk, os⟩ := s
  wp_walk using wpAny_onRaise, N1.item _ k _ _ _ x
  · exact N1.keep _ _ _ q1 (fun o e => Heap.get?_update_of_ne _ nd.1.2.2.1 e) fun o e => Heap.get?_update_of_ne _ (Ne.symm c1.1) e
  · exact hx
  intro g2 r2 s2
  have t2 : IsPair g2 TO a b := s2.extBut _ _ nd.2.2.1.1 (Heap.get?_update_of_ne _ nd.1.2.1 hTO)
  wp_walk using wpAny_onRaise, N2.item _ k _ _ _ y
  · exact N2.keep _ _ _ q2 (fun o e => Heap.get?_update_of_ne _ nd.2.2.1.2 (s2.extBut _ _ (Ne.symm nd.2.2.2) (Heap.get?_update_of_ne _ nd.1.2.2.2 e)))
      fun o e => Heap.get?_update_of_ne _ (Ne.symm c2.2.2.1) (s2.extBut _ _ c2.2.2.2.1 (Heap.get?_update_of_ne _ (Ne.symm c2.1) e))
  · exact hy
  intro g4 r4 s4
  have t4 := s4.extBut _ _ nd.2.2.1.2 (Heap.get?_update_self (Obj.mapSeq fun q => q.setIfInBounds 0 x) t2 rfl)
  have nz : TO ≠ z := Ne.symm nd.1.2.1
  have z4 := s4.extBut _ _ nd.1.2.2.2 (Heap.get?_update_of_ne (Obj.mapSeq fun q => q.setIfInBounds 0 x) nz (s2.extBut _ _ nd.1.2.2.1 (Heap.get?_update_self (Obj.mapFields fun q => q.setIfInBounds 0 Value.ellipsis) hz rfl)))
  wp_walk
  refine ⟨_, rfl, wpAny_pure ?_⟩
  have sz : (g4.update TO (Obj.mapSeq fun q => q.setIfInBounds (0 + 1) y)).objs.size = hp.objs.size := by
    rw [Heap.size_after_update, s4.1]
    show (g2.update TO _).objs.size = _
    rw [Heap.size_after_update, s2.1]
    exact Heap.size_after_update ..
  rw [sz]
  have zl : z < hp.objs.size := Heap.lt_size hz
  have last : ∀ {G : Heap} {c : Addr} {o : Obj} {f1 f2 : Obj → Obj}, c ≠ z → G.get? c = some o → ((G.update z f1).update z f2).get? c = some o := fun n e => Heap.get?_update_of_ne _ (Ne.symm n) (Heap.get?_update_of_ne _ (Ne.symm n) e)
  have mid : ∀ {c : Addr} {o : Obj} {T : Obj}, c ≠ TO → g4.get? c = some o → ((g4.update TO (Obj.mapSeq fun q => q.setIfInBounds (0 + 1) y)).push T).get? c = some o := fun n e => Heap.get?_push_of_some _ (Heap.get?_update_of_ne _ (Ne.symm n) e)
  refine hQ _ (Heap.get?_update_self _ (Heap.get?_update_self _ (mid (Ne.symm nz) z4) rfl) rfl) (last nz (Heap.get?_push_of_some _ (Heap.get?_update_self _ t4 rfl)))
    (N1.keep _ _ _ r2 (fun o e => last (Ne.symm nd.1.2.2.1) (mid (Ne.symm nd.2.2.1.1) (s4.extBut _ _ nd.2.2.2 (Heap.get?_update_of_ne _ nd.2.2.1.1 e))))
      fun o e => last c1.1 (mid c1.2.2.1 (s4.extBut _ _ c1.2.2.2.2 (Heap.get?_update_of_ne _ (Ne.symm c1.2.2.1) e))))
    (N2.keep _ _ _ r4 (fun o e => last (Ne.symm nd.1.2.2.2) (mid (Ne.symm nd.2.2.1.2) e)) fun o e => last c2.1 (mid c2.2.2.1 e))
    (last (Nat.ne_of_gt zl) (Heap.get?_push_at sz.symm rfl)) ?_ fun c o n1 n2 n3 n4 e => last n1 (mid n2 (s4.extBut _ _ n4 (Heap.get?_update_of_ne _ (Ne.symm n2) (s2.extBut _ _ n3 (Heap.get?_update_of_ne _ (Ne.symm n1) e)))))
  rw [Heap.size_after_update, Heap.size_after_update, Heap.size_push, sz]
theorem zip_done {a b : Value} {Q : Option Value → Shared → Prop} (hh : A.handled = none) (nd : [z, TI, TO, i, j].Nodup) (c1 : l ∉ [z, TI, TO, i, j]) (c2 : m ∉ [z, TI, TO, i, j]) (N1 : Nx P w i l p1 xs) (N2 : Nx P w j m p2 ys)
    (hz : IsZip s.heap z TI TO .none) (hTI : IsPair s.heap TI (.ref i) (.ref j)) (hTO : IsPair s.heap TO a b) (q1 : p1 k s.heap) (q2 : p2 k s.heap) (hend : xs[k]? = none ∨ ys[k]? = none)
    (hQ : ∀ h', (∀ c o, c ≠ z → c ≠ TO → c ≠ i → c ≠ j → s.heap.get? c = some o → h'.get? c = some o) → Q none { s with heap := h' }) : wpAny (model P w) A (pyNext (.ref z)) Q E s := by
  simp only [List.nodup_cons, List.mem_cons, List.not_mem_nil, or_false, not_or, not_false_eq_true, and_true, List.nodup_nil] at nd c1 c2
  have hT : s.TypeIs (.ref z) "zip" := ⟨_, hz, rfl⟩
  have stop : ∀ (G : Heap) (e : Addr) (o : Obj), G.get? z = some ⟨.type "zip", none, .fields #[.ellipsis, .bool false, .bool false, .ref TI, .ref TO], #[]⟩ → G.get? e = some o → o.cls = .type "StopIteration" →
      (∀ c o, c ≠ z → c ≠ TO → c ≠ i → c ≠ j → s.heap.get? c = some o → G.get? c = some o) →
      wpAny (model P w) A.in1 (setField (.ref z) 0 .none) (fun _ s'' => wpAny (model P w) A (do if (← isInstance (.ref e) (.type "StopIteration")) = true then pure none else throw (.ref e)) Q E s'') (fun e' s'' => wpAny (model P w) A (do if (← isInstance e' (.type "StopIteration")) = true then pure none else throw e') Q E s'') { s with heap := G } := fun G e o g1 g2 hc kp => by
    have ne : z ≠ e := fun q => by subst q; rw [g1] at g2; cases g2; exact absurd (show Value.type "zip" = Value.type "StopIteration" from hc) (by decide)
    have g3 := Heap.get?_update_of_ne (Obj.mapFields fun q => q.setIfInBounds 0 Value.none) ne g2
    obtain ⟨hp, gs, d, tk, os⟩ := s
    have ht : Shared.TypeIs ⟨G.update z (Obj.mapFields fun q => q.setIfInBounds 0 Value.none), gs, d, tk, os⟩ (.ref e) "StopIteration" := ⟨o, g3, hc⟩
    have sub := isSubtype_stop
    wp_walk
    exact hQ _ fun c o n1 n2 n3 n4 q => Heap.get?_update_of_ne _ (Ne.symm n1) (kp c o n1 n2 n3 n4 q)
  unfold pyNext
  refine wpAny_bind (wpAny_attempt (wpAny_callSpecial?_slot (name := Str.ofString "__next__") hT F.slot_zip_next (wpAny_call_entry F.slot_zip_next hT F.entry_zip_next ?_ (F.args_zip_next_1 _))))
  have z1 := Heap.get?_update_self (Obj.mapFields fun q => q.setIfInBounds 0 Value.ellipsis) hz rfl
  obtain ⟨hp, g, d, tk, os⟩ := s
  have f1 : p1 k (hp.update z (Obj.mapFields fun q => q.setIfInBounds 0 Value.ellipsis)) := N1.keep _ _ _ q1 (fun o e => Heap.get?_update_of_ne _ nd.1.2.2.1 e) fun o e => Heap.get?_update_of_ne _ (Ne.symm c1.1) e
  cases hx : xs[k]? with
  | none =>
    wp_walk using wpAny_onRaise, N1.done _ k
    · exact hh
    · exact f1
    · exact hx
    intro g2 e s2 he
    obtain ⟨o, ho, hc⟩ := he
    exact stop g2 e o (s2 _ _ nd.1.2.2.1 z1) ho hc fun c o n1 n2 n3 n4 q => s2 _ _ n3 (Heap.get?_update_of_ne _ (Ne.symm n1) q)
  | some x =>
    have hy : ys[k]? = none := hend.resolve_left (by rw [hx]; exact nofun)
    wp_walk using wpAny_onRaise, N1.item _ k _ _ _ x
    · exact f1
    · exact hx
    intro g2 r2 s2
    have t2 : IsPair g2 TO a b := s2.extBut _ _ nd.2.2.1.1 (Heap.get?_update_of_ne _ nd.1.2.1 hTO)
    wp_walk using wpAny_onRaise, N2.done _ k
    · exact hh
    · exact N2.keep _ _ _ q2 (fun o e => Heap.get?_update_of_ne _ nd.2.2.1.2 (s2.extBut _ _ (Ne.symm nd.2.2.2) (Heap.get?_update_of_ne _ nd.1.2.2.2 e)))
        fun o e => Heap.get?_update_of_ne _ (Ne.symm c2.2.2.1) (s2.extBut _ _ c2.2.2.2.1 (Heap.get?_update_of_ne _ (Ne.symm c2.1) e))
    · exact hy
    intro g4 e s4 he
    obtain ⟨o, ho, hc⟩ := he
    exact stop g4 e o (s4 _ _ nd.1.2.2.2 (Heap.get?_update_of_ne _ (Ne.symm nd.1.2.1) (s2.extBut _ _ nd.1.2.2.1 z1))) ho hc
      fun c o n1 n2 n3 n4 q => s4 _ _ n4 (Heap.get?_update_of_ne _ (Ne.symm n2) (s2.extBut _ _ n3 (Heap.get?_update_of_ne _ (Ne.symm n1) q)))
end
end L2
end
section
/-! zip walked; ranges as lists and tuples; the empty dict. -/
namespace L2
open PySem PySem.Spec PyProof.Rows
set_option maxHeartbeats 4000000
set_option maxRecDepth 100000
set_option Elab.async false
set_option linter.unusedVariables false

/-! ### ranges -/
section
variable {prog : Program} {w : World} {A : Around} {E : Value → Shared → Prop} {s : Shared} {r : Addr} {a b c : Int} {t u v : Tok} {n : Nat}
end
/-- the ints lo, lo + 1, .. (n of them) -/
def ups (lo : Int) (n : Nat) : List Int := (List.range n).map fun (k : Nat) => lo + (k : Int)
theorem ups_length (lo : Int) (n : Nat) : (ups lo n).length = n := by unfold ups; rw [List.length_map, List.length_range]
theorem vals_items {lo : Int} {n : Nat} {acc : Array Value} (h : ItemsOf (fun i v => ∃ t, v = Value.int (lo + i * 1) t) acc n) : Vals ((ups lo n).map V.int) acc.toList := by
  have : ∀ (us : List Value) (ns : List Int), us.length = ns.length → (∀ (j : Nat) (u : Value), us[j]? = some u → ∃ t, ∃ i, ns[j]? = some i ∧ u = Value.int i t) → Vals (ns.map V.int) us := by
    intro us
    induction us with
    | nil => intro ns hl _; cases ns with
      | nil => exact .nil
      | cons => cases hl
    | cons x r ih =>
      intro ns hl hh
      cases ns with
      | nil => cases hl
      | cons n ns =>
        obtain ⟨t, i, e1, e2⟩ := hh 0 x rfl
        have : n = i := by simpa using e1
        subst this
        exact .cons ⟨t, e2⟩ (ih ns (by simpa using hl) fun j u hj => hh (j + 1) u (by simpa using hj))
  refine this _ _ (by rw [ups_length, Array.length_toList]; exact h.1) fun j u hj => ?_
  have hj' : acc[j]? = some u := by simpa using hj
  obtain ⟨t, e⟩ := h.2 j u hj'
  have hjn : j < n := by rw [← h.1]; exact (Array.getElem?_eq_some_iff.mp hj').1
  refine ⟨t, lo + (j : Int), ?_, by rw [e, Int.mul_one]⟩
  unfold ups
  rw [List.getElem?_map, List.getElem?_range hjn]
  rfl
section
variable {X : Cx}
theorem call_rng2 : CallR X (.type "range") (fun xs H Q => ∃ i j : Int, xs = [.int i, .int j] ∧ ∀ p, H p = none → Q (.ref p) (upd H p (.rng i j))) := by
  intro pins s σ H xs us Q I r h
  obtain ⟨i, j, rfl, q⟩ := h
  obtain ⟨u, u', rfl, r1, r2⟩ := vals2 r
  obtain ⟨t, rfl⟩ := (show ∃ t, u = Value.int i t from r1)
  obtain ⟨t', rfl⟩ := (show ∃ t, u' = Value.int j t from r2)
  refine call_range_2 ⟨.ref s.heap.objs.size, _, I.laid (a := s.heap.objs.size) (o := .rng i j) (fun b ob q => Heap.get?_push_of_some _ q) (Nat.le_refl _) ⟨_, _, _, Heap.get?_push_size _ rfl⟩, rfl, q _ (I.hok.fresh (Nat.le_refl _))⟩
theorem call_list_rng (hc : X.calm = true) : CallR X (.type "list") (fun xs H Q => ∃ p i j, xs = [.ref p] ∧ H p = some (.rng i j) ∧ (-(2 ^ 62) ≤ i ∧ i < 2 ^ 62 ∧ -(2 ^ 62) ≤ j ∧ j < 2 ^ 62) ∧ (j - i).toNat ≤ sizeLine ∧
    ∀ l, H l = none → Q (.ref l) (upd H l (.lst ((ups i (j - i).toNat).map V.int)))) := by
  intro pins s σ H xs us Q I r h
  obtain ⟨p, i, j, rfl, hp, ⟨b1, b2, b3, b4⟩, hz, q⟩ := h
  obtain ⟨u, rfl, rx⟩ := vals1 r
  cases (show u = Value.ref p from rx)
  obtain ⟨t1, t2, t3, ho⟩ := (show ObjOk X.prog X.w H s.heap p (.rng i j) from I.hok p _ hp)
  refine call_list_range (I.ok.hd hc) ho (small_one b1 b2 b3 b4) (n := (j - i).toNat) (by rw [rangeSize_one]; split <;> omega) (by rw [sizeLine_eq] at hz; exact hz) fun h' tk acc c' hk hS hacc => ?_
  refine ⟨.ref s.heap.objs.size, _, I.laid (a := s.heap.objs.size) (t' := tk) (o := .lst ((ups i (j - i).toNat).map V.int)) hk (Nat.le_refl _) ?_, rfl, q _ (I.hok.fresh (Nat.le_refl _))⟩
  refine ⟨by rw [List.length_map, ups_length]; exact hz, acc.toList, c', vals_items hacc, ?_⟩
  have e : acc.toList.toArray = acc := by simp
  rw [e]
  exact hS

/-! ### {} -/
end
end L2
end
section
/-! zip(a, b) of two tuples or two lists, walked with a pair as target. -/
namespace L2
open PySem PySem.Spec PyProof.Rows
set_option maxHeartbeats 4000000
set_option maxRecDepth 100000
set_option Elab.async false
set_option linter.unusedVariables false

/-- kinds: true a tuple, false a list -/
def ItAt (t : Bool) (i l : Addr) (k : Nat) (h : Heap) : Prop := match t with
  | true => h.IsTupleIter i l k
  | false => h.IsListIter i l k
def SqK (t : Bool) (K : PySem.W.Frag) (H : Hp) (l : Addr) (xs : List V) : Prop := match t with
  | true => SqT K H l xs
  | false => SqL K H l xs
theorem ItAt.at {t : Bool} {i l : Addr} {k : Nat} {h h' : Heap} (x : ItAt t i l k h) (e : ∀ o, h.get? i = some o → h'.get? i = some o) : ItAt t i l k h' := by
  cases t
  · exact Heap.IsListIter.at x e
  · exact Heap.IsTupleIter.at x e
theorem ItAt.obj {t : Bool} {i l : Addr} {k : Nat} {h : Heap} (x : ItAt t i l k h) : ∃ o f c, h.get? i = some o ∧ o.data = .fields f ∧ o.cls = .type c ∧ (c = "list_iterator" ∨ c = "tuple_iterator") := by
  cases t
  · obtain ⟨o, e, c, d⟩ := (show h.IsListIter i l k from x)
    exact ⟨o, _, _, e, d, c, .inl rfl⟩
  · obtain ⟨o, e, c, d⟩ := (show h.IsTupleIter i l k from x)
    exact ⟨o, _, _, e, d, c, .inr rfl⟩
section
variable {X : Cx} {pins : List (Addr × Obj)} {σ : St} {H : Hp} {s : Shared}
theorem Inv.sqk {t : Bool} {l : Addr} {xs : List V} (I : Inv X pins σ H s) (h : SqK t X.K H l xs) : ∃ its : List Value, Vals xs its ∧ (∃ o, s.heap.get? l = some o ∧ (o.cls = .type "list" ∨ o.cls = .type "tuple")) ∧
    ∀ (i : Addr), l ≠ i → ∃ pl : Nat → Heap → Prop, Nx X.prog X.w i l pl its.toArray ∧ (∀ k, ItAt t i l k s.heap → pl k s.heap) ∧ (∀ k h', pl k h' → ItAt t i l k h') := by
  cases t
  · obtain ⟨its, r, p, hz⟩ := I.list (show SqL X.K H l xs from h)
    obtain ⟨o, ho, hc, n, hd⟩ := id p.isList
    exact ⟨its, r, ⟨o, ho, .inl hc⟩, fun i ne => ⟨_, nx_list its.toArray ne, fun k z => ⟨z, p.isList⟩, fun k h' z => z.1⟩⟩
  · obtain ⟨its, r, p, hz⟩ := I.tuple (show SqT X.K H l xs from h)
    obtain ⟨o, ho, hc, n, hd⟩ := id p
    exact ⟨its, r, ⟨o, ho, .inr hc⟩, fun i ne => ⟨_, nx_tup its.toArray ne, fun k z => ⟨z, p⟩, fun k h' z => z.1⟩⟩
theorem Inv.sqk_inj {t : Bool} {l : Addr} {xs ys : List V} (I : Inv X pins σ H s) (h : SqK t X.K H l xs) (h' : SqK t X.K H l ys) : xs = ys := by
  cases t
  · exact I.list_inj h h'
  · exact I.tuple_inj h h'
end

/-- the pairs of two sequences -/
def Itz (t : Bool) (K : PySem.W.Frag) (l m : Addr) : It where
  go := fun i H => ∃ xs ys x y, SqK t K H l xs ∧ SqK t K H m ys ∧ xs[i]? = some x ∧ ys[i]? = some y
  yld := fun i H v H' => ∃ p x y, v = .ref p ∧ H p = none ∧ H' = upd H p (.tup [x, y]) ∧ (∀ xs, SqK t K H l xs → xs[i]? = some x) ∧ ∀ ys, SqK t K H m ys → ys[i]? = some y
  stop := fun i H => ∃ xs ys, SqK t K H l xs ∧ SqK t K H m ys ∧ (xs[i]? = none ∨ ys[i]? = none)

theorem turn_zip {P : Program} {w : World} {K : PySem.W.Frag} {es : List Expr} {k0 : Nat} {pos : Pos} {t : Bool} {z TI TO i j l m : Addr} (a1 : TI ≠ z) (a2 : TO ≠ z) (a3 : i ≠ z) (a4 : j ≠ z) (a5 : TI ≠ TO) (a6 : TI ≠ i) (a7 : TI ≠ j) (a8 : TO ≠ i) (a9 : TO ≠ j) (b1 : i ≠ j)
    (c1 : l ∉ [z, TI, TO, i, j]) (c2 : m ∉ [z, TI, TO, i, j]) :
    Turn P w K (.Tuple es k0 pos) (Itz t K l m) [z, TI, TO, i, j] z (fun k h => IsZip h z TI TO .none ∧ IsPair h TI (.ref i) (.ref j) ∧ (∃ a b, IsPair h TO a b) ∧ ItAt t i l k h ∧ ItAt t j m k h) where
  mem := by simp
  obj := fun k h ⟨hz, h1, ⟨a, b, h2⟩, h3, h4⟩ c hc => by
    obtain ⟨o1, f1, _, e1, d1, _⟩ := h3.obj
    obtain ⟨o2, f2, _, e2, d2, _⟩ := h4.obj
    simp only [List.mem_cons, List.not_mem_nil, or_false] at hc
    rcases hc with rfl | rfl | rfl | rfl | rfl
    · exact ⟨_, hz, fun v q => by cases q⟩
    · exact ⟨_, h1, fun v q => by cases q⟩
    · exact ⟨_, h2, fun v q => by cases q⟩
    · exact ⟨_, e1, fun v q => by rw [d1] at q; cases q⟩
    · exact ⟨_, e2, fun v q => by rw [d2] at q; cases q⟩
  keep := fun k h h' ⟨hz, h1, ⟨a, b, h2⟩, h3, h4⟩ kp => ⟨kp z (by simp) _ hz, kp TI (by simp) _ h1, ⟨a, b, kp TO (by simp) _ h2⟩, h3.at fun o e => kp i (by simp) o e, h4.at fun o e => kp j (by simp) o e⟩
  item := by
    intro X hP hw hK hc k pins s σ H E I hf st hg
    subst hP hw hK
    obtain ⟨xs, ys, x, y, hl, hm, hx, hy⟩ := hg
    obtain ⟨hz, h1, ⟨a, b, h2⟩, h3, h4⟩ := st
    have cl := c1
    have cm := c2
    simp only [List.mem_cons, List.not_mem_nil, or_false, not_or] at c1 c2
    obtain ⟨its, r1, _, n1⟩ := I.sqk hl
    obtain ⟨jts, r2, _, n2⟩ := I.sqk hm
    obtain ⟨p1, N1, u1, v1⟩ := n1 i c1.2.2.2.1
    obtain ⟨p2, N2, u2, v2⟩ := n2 j c2.2.2.2.2
    obtain ⟨u, hu, ru⟩ := r1.get hx
    obtain ⟨u', hu', ru'⟩ := r2.get hy
    have D : [z, TI, TO, i, j].Nodup := by simp [a1, a2, a3, a4, a5, a6, a7, a8, a9, b1, Ne.symm a1, Ne.symm a2, Ne.symm a3, Ne.symm a4]
    refine zip_item D cl cm N1 N2 hz h1 h2 (u1 k h3) (u2 k h4) (x := u) (y := u') (by simpa using hu) (by simpa using hu') fun h' z1 z2 z3 z4 z5 z6 kp => ?_
    refine ⟨_, rfl, wpAny_letOwnedTupleGo_zip z1 fun h'' y1 sb => ?_⟩
    have fz : H s.heap.objs.size = none := I.hok.fresh (Nat.le_refl _)
    have zlt : z < s.heap.objs.size := Heap.lt_size hz
    have mine : ∀ c ∈ [z, TI, TO, i, j], c ≠ s.heap.objs.size := fun c hc' => by
      obtain ⟨o1, f1, _, e1, d1, _⟩ := h3.obj
      obtain ⟨o2, f2, _, e2, d2, _⟩ := h4.obj
      simp only [List.mem_cons, List.not_mem_nil, or_false] at hc'
      rcases hc' with rfl | rfl | rfl | rfl | rfl
      · exact Nat.ne_of_lt (Heap.lt_size hz)
      · exact Nat.ne_of_lt (Heap.lt_size h1)
      · exact Nat.ne_of_lt (Heap.lt_size h2)
      · exact Nat.ne_of_lt (Heap.lt_size e1)
      · exact Nat.ne_of_lt (Heap.lt_size e2)
    have kp2 : ∀ c o, c ∉ [z, TI, TO, i, j] → s.heap.get? c = some o → h''.get? c = some o := fun c o hc' e => by
      simp only [List.mem_cons, List.not_mem_nil, or_false, not_or] at hc'
      exact sb.extBut _ _ hc'.1 (kp c o hc'.1 hc'.2.2.1 hc'.2.2.2.1 hc'.2.2.2.2 e)
    have tp : h''.get? s.heap.objs.size = some { cls := .type "tuple", data := .seq #[u, u'] } := sb.extBut _ _ (mine z (by simp)).symm z5
    have notH : ∀ c ∈ [z, TI, TO, i, j], H c = none := fun c hc' => (hf c hc').1
    have I1 : Inv X pins σ (upd H s.heap.objs.size (.tup [x, y])) { s with heap := h'' } := by
      have un : Un X.fs [z, TI, TO, i, j] H (upd H s.heap.objs.size (.tup [x, y])) s.heap h'' :=
        ⟨fun c o e n nf hx => kp2 c o hx e, fun c o e n nf hx => ⟨o.slots, kp2 c o hx e⟩, fun c o e n hx => by rw [upd_ne (Nat.ne_of_lt (Heap.lt_size e))]; exact n,
          fun c o e hx => ⟨o, kp2 c o hx e⟩, fun c xs e => by rw [upd_ne (ne_of_none e fz)]; exact e, fun c o xs e => by rw [upd_ne (ne_of_none e fz)]; exact e, fun c ps e => ⟨#[], by rw [upd_ne (ne_of_none e fz), e]; simp⟩⟩
      have hok : HOk X.prog X.w (upd H s.heap.objs.size (.tup [x, y])) h'' := fun c o e => by
        by_cases hcs : c = s.heap.objs.size
        · subst hcs
          rw [upd_same] at e
          cases e
          exact ⟨by show 2 ≤ sizeLine; decide, [u, u'], .cons ru (.cons ru' .nil), ⟨_, tp, rfl, _, rfl⟩⟩
        · rw [upd_ne hcs] at e
          refine (I.hok c o e).stay (fun d w' hd q => kp2 d w' (fun zz => ?_) q) (fun d q => ?_) fun d w' q => ?_
          · have hn := notH d zz
            rcases hd with rfl | hd
            · rw [hn] at e; cases e
            · rw [hn] at hd; cases hd
          · rw [upd_ne (ne_of_none q fz)]; exact q
          · rw [upd_ne (ne_of_none q fz)]; exact q
      have hch : ∀ b ∈ [z, TI, TO, i, j], (b ∈ X.ex ∨ X.s₀.heap.objs.size ≤ b) ∧ b ≠ X.env.locals ∧ (∀ x c, X.env.cells.lookup x = some c → c ≠ b) ∧ ∀ p ∈ X.pn ++ pins, p.1 ≠ b := fun b hb => ⟨(hf b hb).2.2.2.1, (hf b hb).2.1, (hf b hb).2.2.2.2.1, (hf b hb).2.2.2.2.2⟩
      refine I.step (g' := s.gens) (d' := s.drawn) (t' := s.toks) (ch := [z, TI, TO, i, j]) hch (fun c o _ _ hc' e _ => kp2 c o hc' e) (fun c o _ _ hc' e _ => ⟨o.slots, kp2 c o hc' e⟩) (fun c o hc' e n => un.free c o e n hc') (fun c o hc' e => un.there c o e hc') un.tups un.frzs un.tbls (fun m' hm' => ?_) hok I.bare
      obtain ⟨o, es', ep, ho, r⟩ := hm'
      exact ⟨o, es', ep, kp2 _ o (fun zz => (hf _ zz).2.1 rfl) ho, r⟩
    refine ⟨.ref s.heap.objs.size, _, I1, rfl, ⟨s.heap.objs.size, x, y, rfl, fz, rfl, fun xs' q => by rw [I.sqk_inj q hl]; exact hx, fun ys' q => by rw [I.sqk_inj q hm]; exact hy⟩, ?_, fun c hc' => ?_⟩
    · have up : ∀ c o, c ≠ z → h'.get? c = some o → h''.get? c = some o := fun c o hc' e => sb.extBut _ _ hc' e
      exact ⟨y1, up _ _ a1 (kp _ _ a1 a5 a6 a7 h1), ⟨_, _, up _ _ a2 z2⟩, (v1 _ _ z3).at fun o e => up _ o a3 e, (v2 _ _ z4).at fun o e => up _ o a4 e⟩
    · rw [upd_ne (mine c hc')]
      exact notH c hc'
  done := by
    intro X hP hw hK hc k pins s σ H E I hf st hg
    subst hP hw hK
    obtain ⟨xs, ys, hl, hm, hend⟩ := hg
    obtain ⟨hz, h1, ⟨a, b, h2⟩, h3, h4⟩ := st
    have cl := c1
    have cm := c2
    simp only [List.mem_cons, List.not_mem_nil, or_false, not_or] at c1 c2
    obtain ⟨its, r1, _, n1⟩ := I.sqk hl
    obtain ⟨jts, r2, _, n2⟩ := I.sqk hm
    obtain ⟨p1, N1, u1, v1⟩ := n1 i c1.2.2.2.1
    obtain ⟨p2, N2, u2, v2⟩ := n2 j c2.2.2.2.2
    have D : [z, TI, TO, i, j].Nodup := by simp [a1, a2, a3, a4, a5, a6, a7, a8, a9, b1, Ne.symm a1, Ne.symm a2, Ne.symm a3, Ne.symm a4]
    refine zip_done (I.ok.hd hc) D cl cm N1 N2 hz h1 h2 (u1 k h3) (u2 k h4) (hend.elim (fun q => .inl (by simpa using r1.none_of q)) fun q => .inr (by simpa using r2.none_of q)) fun h' kp => ⟨rfl, ?_⟩
    have kp2 : ∀ c o, c ∉ [z, TI, TO, i, j] → s.heap.get? c = some o → h'.get? c = some o := fun c o hc' e => by
      simp only [List.mem_cons, List.not_mem_nil, or_false, not_or] at hc'
      exact kp c o hc'.1 hc'.2.2.1 hc'.2.2.2.1 hc'.2.2.2.2 e
    have hch : ∀ b ∈ [z, TI, TO, i, j], (b ∈ X.ex ∨ X.s₀.heap.objs.size ≤ b) ∧ b ≠ X.env.locals ∧ (∀ x c, X.env.cells.lookup x = some c → c ≠ b) ∧ ∀ p ∈ X.pn ++ pins, p.1 ≠ b := fun b hb => ⟨(hf b hb).2.2.2.1, (hf b hb).2.1, (hf b hb).2.2.2.2.1, (hf b hb).2.2.2.2.2⟩
    refine I.step (g' := s.gens) (d' := s.drawn) (t' := s.toks) (ch := [z, TI, TO, i, j]) hch (fun c o _ _ hc' e _ => kp2 c o hc' e) (fun c o _ _ hc' e _ => ⟨o.slots, kp2 c o hc' e⟩) (fun _ _ _ _ n => n) (fun c o hc' e => ⟨o, kp2 c o hc' e⟩) (fun _ _ e => e) (fun _ _ _ e => e) (fun b ps e => ⟨#[], by rw [e]; simp⟩) (fun m' hm' => ?_) (fun c o e => ?_) I.bare
    · obtain ⟨o, es', ep, ho, r⟩ := hm'
      exact ⟨o, es', ep, kp2 _ o (fun zz => (hf _ zz).2.1 rfl) ho, r⟩
    · refine (I.hok c o e).stay (fun d w' hd q => kp2 d w' (fun zz => ?_) q) (fun _ q => q) fun _ _ q => q
      have hn := (hf d zz).1
      rcases hd with rfl | hd
      · rw [hn] at e; cases e
      · rw [hn] at hd; cases hd
  self := fun A k s Q E st h => wpAny_pyIter_zip st.1 h
end L2
end
section
/-! zip(a, b) made. -/
namespace L2
open PySem PySem.Spec PyProof.Rows
set_option maxHeartbeats 4000000
set_option maxRecDepth 100000
set_option Elab.async false
set_option linter.unusedVariables false
/-- zip.__new__ of two tuples, walked: two iterators, two pairs, the zip -/
theorem tz_new (l m : Addr) (xs ys : Array Value) : Meets (Builtin.«zip.__new__» ⟨[.type "zip", .ref l, .ref m], []⟩) (fun _ R s => s.heap.IsTuple l xs ∧ s.heap.IsTuple m ys ∧
      ∀ h' : Heap, IsZip h' (s.heap.objs.size + 4) (s.heap.objs.size + 2) (s.heap.objs.size + 3) .none → IsPair h' (s.heap.objs.size + 2) (.ref s.heap.objs.size) (.ref (s.heap.objs.size + 1)) →
        IsPair h' (s.heap.objs.size + 3) .none .none → h'.IsTupleIter s.heap.objs.size l 0 → h'.IsTupleIter (s.heap.objs.size + 1) m 0 → (∀ c o, s.heap.get? c = some o → h'.get? c = some o) →
        R (.ok (.ret (.ref (s.heap.objs.size + 4)))) { s with heap := h' }) :=
  .of_wp fun prog w A R s h => by
    obtain ⟨hp, g, d, tk, os⟩ := s
    obtain ⟨h1, h2, h⟩ := h
    have hsub := sub_zip
    wp_walk using wpAny_pyIter_tuple h1, wpAny_pyIter_tuple (Heap.IsTuple.push h2 _)
    simp only [Heap.size_push]
    refine ⟨_, rfl, h _ (Heap.get?_push_at (by simp only [Heap.size_push]) rfl) ?_ ?_ ?_ ?_ fun c o x => ?_⟩
    · exact Heap.get?_push_of_some _ (Heap.get?_push_of_some _ (Heap.get?_push_at (by simp only [Heap.size_push]) rfl))
    · exact Heap.get?_push_of_some _ (Heap.get?_push_at (by simp only [Heap.size_push]) rfl)
    · exact ⟨_, Heap.get?_push_of_some _ (Heap.get?_push_of_some _ (Heap.get?_push_of_some _ (Heap.get?_push_of_some _ (Heap.get?_push_size _ rfl)))), rfl, rfl⟩
    · exact ⟨_, Heap.get?_push_of_some _ (Heap.get?_push_of_some _ (Heap.get?_push_of_some _ (Heap.get?_push_at (by simp only [Heap.size_push]) rfl))), rfl, rfl⟩
    repeat (first | exact x | refine Heap.get?_push_of_some _ ?_)
section
variable {prog : Program} {w : World} {A : Around} {E : Value → Shared → Prop} {s : Shared}
theorem zip_tups {l m : Addr} {xs ys : Array Value} {Q : Value → Shared → Prop} (h1 : s.heap.IsTuple l xs) (h2 : s.heap.IsTuple m ys)
    (h : ∀ h', IsZip h' (s.heap.objs.size + 4) (s.heap.objs.size + 2) (s.heap.objs.size + 3) .none → IsPair h' (s.heap.objs.size + 2) (.ref s.heap.objs.size) (.ref (s.heap.objs.size + 1)) →
      IsPair h' (s.heap.objs.size + 3) .none .none → h'.IsTupleIter s.heap.objs.size l 0 → h'.IsTupleIter (s.heap.objs.size + 1) m 0 →
      (∀ c o, s.heap.get? c = some o → h'.get? c = some o) → Q (.ref (s.heap.objs.size + 4)) { s with heap := h' }) :
    wpAny (model prog w) A (call (.type "zip") [.ref l, .ref m]) Q E s :=
  callType_new F.called_zip (by decide) (F.typeCall_zip_2 _ _) (F.newCall_zip_2 _ _) (fun obj => F.args_object_init_3 obj _ _) F.entry_zip_new (tz_new l m xs ys)
    ⟨h1, h2, fun h' z p1 p2 i1 i2 kp => ⟨⟨_, z, rfl⟩, h h' z p1 p2 i1 i2 kp⟩⟩
end
theorem apart_nat (n : Nat) {a b : Nat} (h : a ≠ b) : n + a ≠ n + b := fun z => h (Nat.add_left_cancel z)
theorem not_fresh5 {n c : Nat} (h : c < n) (z : c = n + 4 ∨ c = n + 2 ∨ c = n + 3 ∨ c = n ∨ c = n + 1) : False := by omega
theorem fresh5 {n c : Nat} (z : c = n + 4 ∨ c = n + 2 ∨ c = n + 3 ∨ c = n ∨ c = n + 1) : n ≤ c := by omega
section
variable {X : Cx}
def iZip (t : Bool) (K : PySem.W.Frag) (ta : TA) : TI := fun σ H R => ta σ H fun vs H1 => ∃ l m xs ys, vs = [.ref l, .ref m] ∧ SqK t K H1 l xs ∧ SqK t K H1 m ys ∧ R (Itz t K l m) H1
theorem pi_zip (t : Bool) {es : List Expr} {k0 : Nat} {tp : Pos} {a b : Expr} {ta : TA} {p pos : Pos} (hg : Gl X "zip") (hm : X.mg "zip" = none) (ha : PA X [a, b] ta) (hs : starEach [a, b] X.env = [(false, eval a X.env), (false, eval b X.env)] := by rfl) (hs2 : starEach [b] X.env = [(false, eval b X.env)] := by rfl) :
    PI X (.Tuple es k0 tp) (.Call (.Name "zip" p) [a, b] [] pos) (iZip t X.K ta) := by
  intro pins s σ H R I h
  refine Call_ (ld_blt I hg hm boot_zip (PyProof.Rows.callWith_type1 (thn (ha pos pins s σ H _ I h) fun us s1 ⟨vs, H1, I1, r1, q1⟩ => ?_) (by rw [hs, hs2]) (by rw [hs2]; rfl)))
  obtain ⟨l, m, xs, ys, e, hl, hm', q⟩ := q1
  subst e
  obtain ⟨u, u', rfl, ru, ru'⟩ := vals2 r1
  cases (show u = Value.ref l from ru)
  cases (show u' = Value.ref m from ru')
  obtain ⟨its, _, ⟨ol, eol, _⟩, _⟩ := I1.sqk hl
  obtain ⟨jts, _, ⟨om, eom, _⟩, _⟩ := I1.sqk hm'
  have ll : l < s1.heap.objs.size := Heap.lt_size eol
  have lm : m < s1.heap.objs.size := Heap.lt_size eom
  have fin : ∀ h' : Heap, IsZip h' (s1.heap.objs.size + 4) (s1.heap.objs.size + 2) (s1.heap.objs.size + 3) .none → IsPair h' (s1.heap.objs.size + 2) (.ref s1.heap.objs.size) (.ref (s1.heap.objs.size + 1)) →
      IsPair h' (s1.heap.objs.size + 3) .none .none → ItAt t s1.heap.objs.size l 0 h' → ItAt t (s1.heap.objs.size + 1) m 0 h' → (∀ c o, s1.heap.get? c = some o → h'.get? c = some o) →
      wpAny (model X.prog X.w) X.A (pyIter (.ref (s1.heap.objs.size + 4))) (PIE X pins σ (.Tuple es k0 tp) R) X.xe { s1 with heap := h' } := fun h' z1 z2 z3 z4 z5 kp => by
    have I2 : Inv X pins σ H1 { s1 with heap := h' } := I1.kept (t' := s1.toks) kp
    refine wpAny_pyIter_zip z1 ⟨s1.heap.objs.size + 4, [s1.heap.objs.size + 4, s1.heap.objs.size + 2, s1.heap.objs.size + 3, s1.heap.objs.size, s1.heap.objs.size + 1], _, _, H1, rfl, I2,
      turn_zip (t := t) (l := l) (m := m) (apart_nat _ (a := 2) (b := 4) (by decide)) (apart_nat _ (a := 3) (b := 4) (by decide)) (apart_nat _ (a := 0) (b := 4) (by decide)) (apart_nat _ (a := 1) (b := 4) (by decide)) (apart_nat _ (a := 2) (b := 3) (by decide)) (apart_nat _ (a := 2) (b := 0) (by decide)) (apart_nat _ (a := 2) (b := 1) (by decide)) (apart_nat _ (a := 3) (b := 0) (by decide)) (apart_nat _ (a := 3) (b := 1) (by decide)) (apart_nat _ (a := 0) (b := 1) (by decide)) (fun z => ?_) (fun z => ?_), ⟨z1, z2, ⟨_, _, z3⟩, z4, z5⟩, fun c hc => ?_, q⟩
    · simp only [List.mem_cons, List.not_mem_nil, or_false] at z; exact not_fresh5 ll z
    · simp only [List.mem_cons, List.not_mem_nil, or_false] at z; exact not_fresh5 lm z
    · have hcs : s1.heap.objs.size ≤ c := by simp only [List.mem_cons, List.not_mem_nil, or_false] at hc; exact fresh5 hc
      exact I1.fpOk hcs (I1.hok.fresh hcs)
  cases t
  · obtain ⟨its, _, pl, _⟩ := I1.list (show SqL X.K H1 l xs from hl)
    obtain ⟨jts, _, pm, _⟩ := I1.list (show SqL X.K H1 m ys from hm')
    exact call_zip_2 pl.isList pm.isList fun h' z1 z2 z3 z4 z5 _ kp => fin h' z1 z2 z3 z4 z5 kp
  · obtain ⟨its, _, pl, _⟩ := I1.tuple (show SqT X.K H1 l xs from hl)
    obtain ⟨jts, _, pm, _⟩ := I1.tuple (show SqT X.K H1 m ys from hm')
    exact zip_tups pl pm fun h' z1 z2 z3 z4 z5 kp => fin h' z1 z2 z3 z4 z5 kp
end
end L2
end
section
/-! SHORT WORDS for a whole text: own defs by name, built-ins by name. -/
namespace L2
open PySem PySem.Spec PyProof.Rows
set_option maxHeartbeats 4000000
set_option Elab.async false
set_option linter.unusedVariables false
/-- the def x keeps sp with k calls left -/
def Has (P : Program) (w : World) (K : PySem.W.Frag) (mg : Str → Option Value) (base : Heap) (k : Nat) (x : Str) (ps : List Str) (sp : Sp) : Prop :=
  ∃ (f : Addr) (fd : FuncData), FnOk P w K mg base CX0 k f fd ps sp ∧ mg x = some (.ref f) ∧ PySem.W.keepIn K (.ref f) = true ∧ Binds K fd ps []
section
variable {X : Cx} {k k' : Nat} {x : Str} {ps : List Str} {sp : Sp} {e : Expr} {es : List Expr} {t : TA} {p pos : Pos}
theorem pe_def (h : Has X.prog X.w X.K X.mg X.base k x ps sp) (hr : Room k' X.A) (ha : PA X (e :: es) t) (hg : Gl X x := by rfl) (hk : k ≤ k' := by decide) (hdb : (x == ("__debug__" : Str)) = false := by decide)
    (he : starEach (e :: es) X.env = (false, eval e X.env) :: starEach es X.env := by rfl) (hpl : (backTo pos (starEach es X.env)).any (·.1) = false := by rfl) : PE X (.Call (.Name x p) (e :: es) [] pos) (tCall sp [] E0 t) := by
  obtain ⟨f, fd, F, m, kp, b⟩ := h
  exact pe_call F (hr.mono hk) hg m kp b .nil pass0 ha hdb he hpl
/-- a built-in type as a value -/
theorem pe_ty {T : String} (hm : X.mg x = none) (hv : bootBuiltins x = some (.type T)) (hg : Gl X x := by rfl) (hn : x ≠ "__name__" := by decide) (hd : (x == ("__debug__" : Str)) = false := by decide) : PE X (.Name x pos) (tC (.ty T)) := pe_bltn hg hm hv rfl hn hd
end
/-- the built-ins that a text uses are no names of its own -/
structure Nb (mg : Str → Option Value) : Prop where
  len : mg "len" = none
  isi : mg "isinstance" = none
  bool : mg "bool" = none
  int : mg "int" = none
  tuple : mg "tuple" = none
  list : mg "list" = none
  range : mg "range" = none
  zip : mg "zip" = none
  all : mg "all" = none
  max : mg "max" = none
  min : mg "min" = none
end L2
end
section
/-! A comprehension without tests whose elements only add to the heap. -/
namespace L2
open PySem PySem.Spec PyProof.Rows
set_option maxHeartbeats 4000000
set_option Elab.async false
set_option linter.unusedVariables false
theorem Same.upd_free {H1 H5 : Hp} {D : Addr} (s : Same H1 H5) (hD : H1 D = none) (o : HO) : Same H1 (upd H5 D o) := fun b u q => by rw [upd_ne (ne_of_none q hD)]; exact s b u q
theorem comp_go {J : It} {g : TG} {te : TE} {Q : VK} {D : Addr} {H1 : Hp} {σ0 : St} (n : Nat) (hn : n ≤ sizeLine) (f : Nat → V) (Sg : St → Prop) (itm : Nat → Hp → V → Prop) (hD : H1 D = none) (s0 : Sg σ0)
    (items : ∀ i H, Same H1 H → (i < n → J.go i H ∧ ∀ x H2, J.yld i H x H2 → Same H H2 ∧ itm i H2 x) ∧ (n ≤ i → J.stop i H))
    (step : ∀ i x σ' H, i < n → Same H1 H → itm i H x → Sg σ' → ∀ R : St → V → Hp → Prop, (∀ σ3 y H5, Sg σ3 → Same H H5 → y = f i → R σ3 y H5) → g x σ' H fun σ3 H3 => te σ3 H3 (R σ3))
    (fin : ∀ H', Same H1 H' → H' D = some (.lst ((List.range n).map f)) → Q (.ref D) H') :
    cmpW J g tYes te Q D σ0 H1 := by
  refine ⟨fun i m σ H => m = n - i ∧ i ≤ n ∧ Sg σ ∧ Same H1 H ∧ H D = some (.lst ((List.range i).map f)), ⟨n, by omega, Nat.zero_le _, s0, (Same.refl H1).upd_free hD _, upd_same⟩, ?_⟩
  rintro i m σ H ⟨rfl, hi, hs, sm, hd⟩
  by_cases hlt : i < n
  · obtain ⟨go, yl⟩ := (items i H sm).1 hlt
    refine .inr ⟨go, fun x H2 y => ?_⟩
    obtain ⟨s2, im⟩ := yl x H2 y
    have e : (fun (σ3 : St) (H3 : Hp) => tYes σ3 H3 fun ok H4 =>
        if ok = true then te σ3 H4 fun y H5 => ∃ ys, H5 D = some (.lst ys) ∧ ys.length < sizeLine ∧ ∃ m', m' < n - i ∧ (m' = n - (i + 1) ∧ i + 1 ≤ n ∧ Sg σ3 ∧ Same H1 (upd H5 D (.lst (ys ++ [y]))) ∧ upd H5 D (.lst (ys ++ [y])) D = some (.lst ((List.range (i + 1)).map f)))
        else ∃ m', m' < n - i ∧ (m' = n - (i + 1) ∧ i + 1 ≤ n ∧ Sg σ3 ∧ Same H1 H4 ∧ H4 D = some (.lst ((List.range (i + 1)).map f)))) =
        fun σ3 H3 => te σ3 H3 fun y H5 => ∃ ys, H5 D = some (.lst ys) ∧ ys.length < sizeLine ∧ ∃ m', m' < n - i ∧ (m' = n - (i + 1) ∧ i + 1 ≤ n ∧ Sg σ3 ∧ Same H1 (upd H5 D (.lst (ys ++ [y]))) ∧ upd H5 D (.lst (ys ++ [y])) D = some (.lst ((List.range (i + 1)).map f))) := by
      funext σ3 H3
      unfold tYes
      dsimp only
      rw [if_pos rfl]
    rw [e]
    refine step i x σ H2 hlt (sm.trans s2) im hs _ fun σ3 y H5 g3 s5 ey => ?_
    refine ⟨_, s5 _ _ (s2 _ _ hd), by rw [List.length_map, List.length_range]; omega, n - (i + 1), by omega, rfl, by omega, g3, (sm.trans (s2.trans s5)).upd_free hD _, ?_⟩
    rw [upd_same, ey, List.range_succ, List.map_append]
    rfl
  · have e : i = n := by omega
    subst e
    exact .inl ⟨(items i H sm).2 (Nat.le_refl _), fin H sm hd⟩
/-- over a tracked tuple -/
theorem items_tup {K : PySem.W.Frag} {a : Addr} {xs : List V} {H1 : Hp} (h : H1 a = some (.tup xs)) (i : Nat) (H : Hp) (s : Same H1 H) :
    (i < xs.length → (Itt K a).go i H ∧ ∀ x H2, (Itt K a).yld i H x H2 → Same H H2 ∧ xs[i]? = some x) ∧ (xs.length ≤ i → (Itt K a).stop i H) := by
  have q : SqT K H a xs := SqT.of (s _ _ h)
  refine ⟨fun hi => ⟨⟨xs, xs[i], q, List.getElem?_eq_getElem hi⟩, fun x H2 ⟨e, y⟩ => ?_⟩, fun hi => ⟨xs, q, hi⟩⟩
  subst e
  exact ⟨Same.refl _, y xs q⟩
theorem items_lst {K : PySem.W.Frag} {a : Addr} {xs : List V} {H1 : Hp} (h : H1 a = some (.lst xs)) (i : Nat) (H : Hp) (s : Same H1 H) :
    (i < xs.length → (Itl K a).go i H ∧ ∀ x H2, (Itl K a).yld i H x H2 → Same H H2 ∧ xs[i]? = some x) ∧ (xs.length ≤ i → (Itl K a).stop i H) := by
  have q : SqL K H a xs := SqL.of (s _ _ h)
  refine ⟨fun hi => ⟨⟨xs, xs[i], q, List.getElem?_eq_getElem hi⟩, fun x H2 ⟨e, y⟩ => ?_⟩, fun hi => ⟨xs, q, hi⟩⟩
  subst e
  exact ⟨Same.refl _, y xs q⟩
/-- over two tracked tuples, side by side -/
theorem items_zip {K : PySem.W.Frag} {a b : Addr} {xs ys : List V} {H1 : Hp} (h : H1 a = some (.tup xs)) (h' : H1 b = some (.tup ys)) (i : Nat) (H : Hp) (s : Same H1 H) :
    (i < min xs.length ys.length → (Itz true K a b).go i H ∧ ∀ v H2, (Itz true K a b).yld i H v H2 → Same H H2 ∧ ∃ p x y, v = .ref p ∧ H2 p = some (.tup [x, y]) ∧ xs[i]? = some x ∧ ys[i]? = some y) ∧ (min xs.length ys.length ≤ i → (Itz true K a b).stop i H) := by
  have q : SqK true K H a xs := SqT.of (s _ _ h)
  have q' : SqK true K H b ys := SqT.of (s _ _ h')
  refine ⟨fun hi => ⟨⟨xs, ys, xs[i]'(by omega), ys[i]'(by omega), q, q', List.getElem?_eq_getElem (by omega), List.getElem?_eq_getElem (by omega)⟩, fun v H2 ⟨p, x, y, e1, e2, e3, e4, e5⟩ => ?_⟩, fun hi => ⟨xs, ys, q, q', ?_⟩⟩
  · subst e3
    exact ⟨same_new e2 _, p, x, y, e1, upd_same, e4 xs q, e5 ys q'⟩
  · by_cases hx : xs.length ≤ i
    · exact .inl (List.getElem?_eq_none hx)
    · exact .inr (List.getElem?_eq_none (by omega))
end L2
end
section
/-! Comprehensions with a name, with a pair of names as target. -/
namespace L2
open PySem PySem.Spec PyProof.Rows
set_option maxHeartbeats 4000000
set_option Elab.async false
set_option linter.unusedVariables false
section
variable {X : Cx} {elt iter : Expr} {ifs : List Expr} {scope : Scope} {pos : Pos} {N : List Str} {js : List Nat} {sc : Scope} {N0 : List Str} {wi : TI} {tt : TT} {te : TE} {x y : Str} {px py tp : Pos} {k : Nat}
theorem blk_loc {cl : List (Str × Addr)} {C : Addr} {s : Shared} {H : Hp} {fp : List Addr} (h : scope.names.lookup x = some .local) : (blk X N scope cl C s H fp).env.scope.names.lookup x = some .local := lookup_relabel_local h
theorem pe_comp1 (hc : X.calm = true) (hsc : X.env.scope = sc) (hN : X.N = N0) (B : Blk sc N0 (x :: N) 1 js scope) (hx : scope.names.lookup x = some .local) (hi : PI X (.Name x px) iter wi)
    (ht : ∀ cl C s H fp, PTs (blk X (x :: N) scope cl C s H fp) ifs tt) (he : ∀ cl C s H fp, PE (blk X (x :: N) scope cl C s H fp) elt te)
    (hs : ∀ x, foldedSetIterable iter X.env x = pure x := by intro _; rfl) : PE X (.ListComp elt [⟨.Name x px, iter, ifs, 0⟩] scope pos) (tComp 1 js wi (gName 0) tt te) :=
  pe_comp hc hsc hN B hi (fun cl C s H fp => pg_name (i := 0) B.nd rfl (.inl (blk_loc hx)) (.inr (blk_loc hx))) ht he hs
theorem pe_comp2 (hc : X.calm = true) (hsc : X.env.scope = sc) (hN : X.N = N0) (B : Blk sc N0 (x :: y :: N) 2 js scope) (hx : scope.names.lookup x = some .local) (hy : scope.names.lookup y = some .local) (hi : PI X (.Tuple [.Name x px, .Name y py] k tp) iter wi)
    (ht : ∀ cl C s H fp, PTs (blk X (x :: y :: N) scope cl C s H fp) ifs tt) (he : ∀ cl C s H fp, PE (blk X (x :: y :: N) scope cl C s H fp) elt te)
    (hs : ∀ x, foldedSetIterable iter X.env x = pure x := by intro _; rfl) : PE X (.ListComp elt [⟨.Tuple [.Name x px, .Name y py] k tp, iter, ifs, 0⟩] scope pos) (tComp 2 js wi (gTup X.K 2 (gCons (gName 0) (gCons (gName 1) gNil))) tt te) :=
  pe_comp hc hsc hN B hi (fun cl C s H fp => pg_tup (X := blk X (x :: y :: N) scope cl C s H fp) hc (pgs_cons (pg_name (i := 0) B.nd rfl (.inl (blk_loc hx)) (.inr (blk_loc hx))) (pgs_cons (pg_name (i := 1) B.nd rfl (.inl (blk_loc hy)) (.inr (blk_loc hy))) pgs_nil))) ht he hs
end
end L2
end
section
/-! LONG DISPLAYS: the judgement in a box that is not looked into while it is put together. -/
namespace L2
open PySem PySem.Spec PyProof.Rows
set_option maxHeartbeats 4000000
set_option Elab.async false
set_option linter.unusedVariables false
structure SA (X : Cx) (es : List Expr) (t : TA) : Prop where
  get : PA X es t
structure SE (X : Cx) (e : Expr) (t : TE) : Prop where
  get : PE X e t
section
variable {X : Cx} {e : Expr} {es : List Expr} {te : TE} {t : TA} {pos : Pos}
end
end L2
end
section
/-! reversed(t) of a tuple: what the tables say of the type `reversed`. -/
namespace L2
open PySem PySem.Spec PyProof.Rows
set_option maxHeartbeats 4000000
set_option maxRecDepth 100000
set_option Elab.async false
set_option linter.unusedVariables false
end L2
end
section
namespace L2
open PySem PySem.Spec PyProof.Rows
set_option maxHeartbeats 4000000
set_option maxRecDepth 100000
set_option Elab.async false
set_option linter.unusedVariables false
section
variable {prog : Program} {w : World} {A : Around} {E : Value → Shared → Prop}
end
section
variable {X : Cx} {tg : Expr}
end
end L2
end
section
/-! Tuples of ints held side by side; list(range(a, b, c)); comprehensions with a test. -/
namespace L2
open PySem PySem.Spec PyProof.Rows
set_option maxHeartbeats 4000000
set_option Elab.async false
set_option linter.unusedVariables false
theorem of_rcne' {prog : Program} {w : World} {A : Around} {E : Value → Shared → Prop} {s : Shared} {a b : Value} {k : Bool} {Q : Value → Shared → Prop} (h : SeqAt.RcNeAt A s a b k) (hq : Q (.bool k) s) : wpAny (model prog w) A (compareOp .NotEq a b) Q E s := h prog w E Q hq
section
variable {X : Cx}
end
end L2
end
section
/-! name = [comprehension]; comprehensions with a test; ranges walked by a comprehension. -/
namespace L2
open PySem PySem.Spec PyProof.Rows
set_option maxHeartbeats 4000000
set_option Elab.async false
set_option linter.unusedVariables false
/-- name = [comprehension]: the name is stored while the block still stands -/
def tSetC (i : Nat) (te : TE) : TS := fun D σ H => te σ H fun v H1 => D.nx (σ.set i (some v)) H1
theorem ps_comp {X : Cx} {elt tg iter : Expr} {ifs : List Expr} {scope : Scope} {pos pos' spos : Pos} {N : List Str} {nt : Nat} {js : List Nat} {sc : Scope} {N0 : List Str} {wi : TI} {g : TG} {tt : TT} {te : TE} {ii : Nat} {nm : Str}
    (hNd : X.N.Nodup) (hii : X.N[ii]? = some nm) (hloc : Loc X.env.scope nm)
    (hc : X.calm = true) (hsc : X.env.scope = sc) (hN : X.N = N0) (B : Blk sc N0 N nt js scope) (hi : PI X tg iter wi)
    (hg : ∀ cl C s H fp, PG (blk X N scope cl C s H fp) tg g) (ht : ∀ cl C s H fp, PTs (blk X N scope cl C s H fp) ifs tt) (he : ∀ cl C s H fp, PE (blk X N scope cl C s H fp) elt te)
    (hsw : swapsWith (.ListComp elt [⟨tg, iter, ifs, 0⟩] scope pos) (some (.Name nm pos')) spos.line X.env = pure true := by rfl)
    (hf : X.fn nm = true ∨ X.env.scope.names.lookup nm = some .local := by first | exact .inl rfl | exact .inr rfl | assumption)
    (hs : ∀ x, foldedSetIterable iter X.env x = pure x := by intro _; rfl) : PS X (.Assign [.Name nm pos'] (.ListComp elt [⟨tg, iter, ifs, 0⟩] scope pos) spos) (tSetC ii (tComp nt js wi g tt te)) := by
  subst hsc hN
  intro pins s σ H D I h
  obtain ⟨cl, hcl, c1, c2⟩ := clos_of (env := X.env) (scope := scope) fun y hy hk => I.ok.has y.1 (B.cap y hy hk)
  rw [PySem.exec_Assign_Name_used _ _ _ _ hsw]
  refine wpAny_bind (wpAny_standAt (wpAny_bind ?_))
  show wpAny _ _ (comprehension _ scope X.env _ _ _ _ (some (assign (.Name nm pos') X.env)) >>= _) _ _ _
  refine wpAny_bind (thn (Q := fun _ s' => ∃ σ' H', Inv X pins σ' H' s' ∧ D.nx σ' H') ?_ fun _ s9 q9 => wpAny_pure (wpAny_pure q9))
  refine wpAny_comprehension_free (use := some (assign (.Name nm pos') X.env)) rfl hs hcl B.kind B.loc (thn (hi pins s σ H _ I h) fun v s1 q1 => thn q1 fun itv s2 q2 => ?_)
  obtain ⟨it, fp, tn, J, H2, e, I2, T, st2, f2, q2⟩ := q2
  subst e
  obtain ⟨W, ⟨m0, w0⟩, turn⟩ := q2 s2.heap.objs.size (I2.hok.fresh (Nat.le_refl _))
  have hlt : ∀ b ∈ fp, b < s2.heap.objs.size := fun b hb => by
    obtain ⟨o, eo, _⟩ := T.obj _ _ st2 b hb
    exact Heap.lt_size eo
  refine wpAny_newObj_type (wpAny_newFunctionEnv B.nocell (by intro y hy; simp at hy) (fun h1 hns hsb => ?_) B.kind)
  dsimp only at hns hsb ⊢
  have hsz : (s2.heap.push { cls := .type "list", dict := none, data := .seq ([] : List Value).toArray }).objs.size = s2.heap.objs.size + 1 := by rw [Heap.size_push]
  have old : ∀ b o, s2.heap.get? b = some o → h1.get? b = some o := fun b o eb => hsb.extBut b o (by rw [hsz]; exact Nat.ne_of_lt (Nat.lt_succ_of_lt (Heap.lt_size eb))) (Heap.get?_push_of_some _ (Heap.get?_push_of_some _ eb))
  have hD : h1.get? s2.heap.objs.size = some { cls := .type "list", data := .seq ([] : List Value).toArray 0 } := hsb.extBut _ _ (by rw [hsz]; exact Nat.ne_of_lt (Nat.lt_succ_self _)) (Heap.get?_push_of_some _ (Heap.get?_push_size _ rfl))
  rw [hsz] at hns
  have I3 := blk_start (cl := cl) (fp := fp) (tk := s2.toks + ([] : List (Str × Value)).length) I2 B c1 c2 f2 hlt old (show h1.Ns (s2.heap.objs.size + 1) fun _ => none from hns) hD
  have stat : ∀ {H' : Hp}, (∀ b ∈ fp, H' b = none) → ∀ b ∈ fp, FpOk (blk X N scope cl (s2.heap.objs.size + 1) s2 H2 fp) [] H' b := fun {H'} hn b hb =>
    ⟨hn b hb, Nat.ne_of_lt (Nat.lt_succ_of_lt (hlt b hb)), fun z => (List.mem_cons.mp (I2.stkSub b z)).elim (f2 b hb).2.1 (f2 b hb).2.2.1, .inl hb, fun x c ec => (f2 b hb).2.2.2.2.1 x c (c1 x c ec), fun p hp => absurd (show p ∈ ([] : List (Addr × Obj)) from hp) (by simp)⟩
  have fin : ∀ {i : Nat} {σ' : St} {H' : Hp} {s' : Shared}, Inv (blk X N scope cl (s2.heap.objs.size + 1) s2 H2 fp) [] σ' H' s' → D.nx (σ.set ii (some (.ref s2.heap.objs.size))) H' →
      compPost (model X.prog X.w) X.A X.xe (some (assign (.Name nm pos') X.env)) (fun _ s' => ∃ σ' H', Inv X pins σ' H' s' ∧ D.nx σ' H') (.ref s2.heap.objs.size) (s2.heap.objs.size + 1) (.ok .next) s' := fun {i σ' H' s'} Ib q => by
    obtain ⟨m, hn, _⟩ := id Ib.loc
    have I4 : Inv X pins σ H' s' := I2.call' Ib.os Ib.base Ib.hok Ib.bare fun b hb => ⟨(f2 b hb).2.2.2.1, (f2 b hb).2.1, (f2 b hb).2.2.2.2.1, (f2 b hb).2.2.2.2.2⟩
    obtain ⟨g0, g1, g2, g3, g4, g5⟩ := I2.fpOk (H' := H') (Nat.le_succ _) Ib.free
    show wpAny _ _ (assign (.Name nm pos') X.env (.ref s2.heap.objs.size)) _ _ _
    refine wpAny_bind (wpAny_standAt (wpAny_bindName (store_ok2 I4 hNd hii hloc (v := .ref s2.heap.objs.size) rfl (fun s5 I5 ⟨a, sb, ha⟩ => ?_) hf)))
    have na : s2.heap.objs.size + 1 ≠ a := by
      rcases ha with rfl | ha
      · exact g1
      · exact fun z => g4 _ _ ha z.symm
    refine ⟨m, hn.sameBut sb na, fun h'' hs'' => ?_⟩
    exact ⟨_, H', I5.turned (t' := s5.toks) (fun b o hb eb => hs''.extBut b o hb eb) g0 g1 g3 g4 g5, q⟩
  have loop : codeAny (model X.prog X.w) X.A (.compLoop (.ListComp elt [⟨tg, iter, ifs, 0⟩] scope pos) 0 (.ref it) (.ref s2.heap.objs.size) (compEnvC scope cl (s2.heap.objs.size + 1) X.env))
      (compPost (model X.prog X.w) X.A X.xe (some (assign (.Name nm pos') X.env)) (fun _ s' => ∃ σ' H', Inv X pins σ' H' s' ∧ D.nx σ' H') (.ref s2.heap.objs.size) (s2.heap.objs.size + 1)) { s2 with heap := h1, toks := s2.toks + ([] : List (Str × Value)).length } := by
    refine comp_turns (fun n s' => ∃ i σ' H', Inv (blk X N scope cl (s2.heap.objs.size + 1) s2 H2 fp) [] σ' H' s' ∧ tn i s'.heap ∧ (∀ b ∈ fp, H' b = none) ∧ W i n σ' H') ?_ m0
      ⟨0, _, _, I3, T.keep _ _ _ st2 fun b _ o eb => old b o eb, fun b hb => ?_, w0⟩
    · rintro n s3 ⟨i, σ3, H3, J3, st3, fr3, w3⟩
      rcases turn i n σ3 H3 w3 with ⟨stop, qn⟩ | ⟨go, step⟩
      · refine thn (T.done (blk X N scope cl (s2.heap.objs.size + 1) s2 H2 fp) rfl rfl rfl hc i [] s3 σ3 H3 _ J3 (stat fr3) st3 stop) fun r s4 ⟨hr, I4⟩ => ?_
        subst hr
        exact fin (i := i) I4 qn
      · refine thn (T.item (blk X N scope cl (s2.heap.objs.size + 1) s2 H2 fp) rfl rfl rfl hc i [] s3 σ3 H3 _ J3 (stat fr3) st3 go) fun r s4 ⟨u, hr, h4⟩ => ?_
        subst hr
        refine thn h4 fun _ s5 ⟨x, H5, I5, r5, y5, st5, fr5⟩ => ?_
        have I5' := I5.pinned (stat fr5) (T.obj _ _ st5)
        refine thn (hg _ _ _ _ _ _ s5 σ3 H5 x u _ I5' r5 (step x H5 y5)) fun _ s6 ⟨σ6, H6, I6, q6⟩ => ?_
        have again : ∀ {σ7 : St} {H7 : Hp} {s7 : Shared} {k : Nat}, Inv (blk X N scope cl (s2.heap.objs.size + 1) s2 H2 fp) ([] ++ pinsAt fp s5.heap) σ7 H7 s7 → k < n → W (i + 1) k σ7 H7 →
            ∃ k, k < n ∧ ∃ i σ' H', Inv (blk X N scope cl (s2.heap.objs.size + 1) s2 H2 fp) [] σ' H' s7 ∧ tn i s7.heap ∧ (∀ b ∈ fp, H' b = none) ∧ W i k σ' H' := fun {σ7 H7 s7 k} I7 hk w7 => by
          refine ⟨k, hk, i + 1, σ7, H7, I7.unpinned, T.keep _ _ _ st5 fun b hb o eb => (I7.pin (b, o) (List.mem_append_right _ (List.mem_append_right _ (mem_pinsAt hb eb)))).1, fun b hb => ?_, w7⟩
          obtain ⟨o, eb, _⟩ := T.obj _ _ st5 b hb
          exact (I7.pin (b, o) (List.mem_append_right _ (List.mem_append_right _ (mem_pinsAt hb eb)))).2.1
        refine thn (ht _ _ _ _ _ _ s6 σ6 H6 _ I6 q6) fun ok s7 ⟨H7, I7, q7⟩ => ?_
        cases ok with
        | false =>
          rw [if_neg Bool.false_ne_true] at q7 ⊢
          obtain ⟨k, hk, w7⟩ := q7
          exact again I7 hk w7
        | true =>
          rw [if_pos rfl] at q7 ⊢
          refine thn (he _ _ _ _ _ _ s7 σ6 H7 _ I7 q7) fun y s8 ⟨v8, H8, I8, r8, ys, e8, z8, k, hk, w8⟩ => ?_
          refine thn (mt_append _ s8 σ6 H8 (.ref s2.heap.objs.size) [v8] _ [y] (fun _ H9 => W (i + 1) k σ6 H9) I8 rfl (.cons r8 .nil) ⟨_, ys, v8, rfl, rfl, e8, z8, w8⟩) fun _ s9 ⟨_, H9, I9, _, w9⟩ => ?_
          exact again I9 hk w9
    · show upd H2 _ _ b = none
      rw [upd_ne (Nat.ne_of_lt (hlt b hb))]
      exact (f2 b hb).1
  rw [hsz]
  exact codeAny_compStart_list loop (T.self _ 0 _ _ _ (T.keep _ _ _ st2 fun b _ o eb => old b o eb) loop)

end L2
end
section
/-! Comprehensions with a test; ranges and reversed tuples walked by one. -/
namespace L2
open PySem PySem.Spec PyProof.Rows
set_option maxHeartbeats 4000000
set_option Elab.async false
set_option linter.unusedVariables false
theorem range_filter_succ (n : Nat) (keep : Nat → Bool) : (List.range (n + 1)).filter keep = (List.range n).filter keep ++ (if keep n = true then [n] else []) := by
  rw [List.range_succ, List.filter_append]
  congr 1
  cases h : keep n <;> simp [h]
theorem comp_sel {J : It} {g : TG} {tt : TT} {te : TE} {Q : VK} {D : Addr} {H1 : Hp} {σ0 : St} (n : Nat) (hn : n ≤ sizeLine) (keep : Nat → Bool) (f : Nat → V) (Sg : St → Prop) (itm : Nat → Hp → V → Prop) (hD : H1 D = none) (s0 : Sg σ0)
    (items : ∀ i H, Same H1 H → (i < n → J.go i H ∧ ∀ x H2, J.yld i H x H2 → Same H H2 ∧ itm i H2 x) ∧ (n ≤ i → J.stop i H))
    (step : ∀ i x σ' H, i < n → Same H1 H → itm i H x → Sg σ' → ∀ (R : St → V → Hp → Prop) (S : St → Hp → Prop), (keep i = true → ∀ σ3 y H5, Sg σ3 → Same H H5 → y = f i → R σ3 y H5) → (keep i = false → ∀ σ3 H4, Sg σ3 → Same H H4 → S σ3 H4) →
      g x σ' H fun σ3 H3 => tt σ3 H3 fun ok H4 => if ok = true then te σ3 H4 (R σ3) else S σ3 H4)
    (fin : ∀ H', Same H1 H' → H' D = some (.lst (((List.range n).filter keep).map f)) → Q (.ref D) H') :
    cmpW J g tt te Q D σ0 H1 := by
  refine ⟨fun i m σ H => m = n - i ∧ i ≤ n ∧ Sg σ ∧ Same H1 H ∧ H D = some (.lst (((List.range i).filter keep).map f)), ⟨n, by omega, Nat.zero_le _, s0, (Same.refl H1).upd_free hD _, upd_same⟩, ?_⟩
  rintro i m σ H ⟨rfl, hi, hs, sm, hd⟩
  by_cases hlt : i < n
  · obtain ⟨go, yl⟩ := (items i H sm).1 hlt
    refine .inr ⟨go, fun x H2 y => ?_⟩
    obtain ⟨s2, im⟩ := yl x H2 y
    refine step i x σ H2 hlt (sm.trans s2) im hs _ _ (fun kp σ3 y H5 g3 s5 ey => ?_) (fun kp σ3 H4 g3 s4 => ?_)
    · have ll : (((List.range i).filter keep).map f).length ≤ i := by
        rw [List.length_map]
        exact Nat.le_trans (List.length_filter_le _ _) (by rw [List.length_range]; exact Nat.le_refl _)
      refine ⟨_, s5 _ _ (s2 _ _ hd), by omega, n - (i + 1), by omega, rfl, by omega, g3, (sm.trans (s2.trans s5)).upd_free hD _, ?_⟩
      rw [upd_same, ey, range_filter_succ, if_pos kp, List.map_append]
      rfl
    · refine ⟨n - (i + 1), by omega, rfl, by omega, g3, sm.trans (s2.trans s4), ?_⟩
      rw [s4 _ _ (s2 _ _ hd), range_filter_succ, if_neg (by rw [kp]; exact Bool.false_ne_true), List.append_nil]
  · have e : i = n := by omega
    subst e
    exact .inl ⟨(items i H sm).2 (Nat.le_refl _), fin H sm hd⟩
theorem items_rng {H1 : Hp} (lo : Int) (n : Nat) (i : Nat) (H : Hp) (s : Same H1 H) :
    (i < n → (Itr lo n).go i H ∧ ∀ x H2, (Itr lo n).yld i H x H2 → Same H H2 ∧ x = .int (lo + (i : Int))) ∧ (n ≤ i → (Itr lo n).stop i H) := by
  refine ⟨fun hi => ⟨hi, fun x H2 ⟨e, y⟩ => ?_⟩, fun hi => hi⟩
  subst e
  exact ⟨Same.refl _, y⟩
end L2
end
section
/-! BALLS AND BOXES: a carrier goes from the left to the right over the boxes. -/
namespace BB
/-- at one box: the load behind it, and whether a ball lies there then -/
def stp (z L : Nat) (b : Bool) : Nat × Bool :=
  if b then (if L < z then (L + 1, false) else (L, true)) else (if 0 < L then (L - 1, true) else (0, false))
def out (z : Nat) : Nat → List Bool → List Bool
  | _, [] => []
  | L, b :: r => (stp z L b).2 :: out z (stp z L b).1 r
def fin (z : Nat) : Nat → List Bool → Nat
  | L, [] => L
  | L, b :: r => fin z (stp z L b).1 r
theorem fin_append (z : Nat) : ∀ (L : Nat) (x y : List Bool), fin z L (x ++ y) = fin z (fin z L x) y
  | _, [], _ => rfl
  | L, b :: r, y => fin_append z _ r y
theorem out_length (z : Nat) : ∀ (L : Nat) (bs : List Bool), (out z L bs).length = bs.length
  | _, [] => rfl
  | L, b :: r => by
    show (out z _ r).length + 1 = r.length + 1
    rw [out_length z _ r]
theorem count_out {z : Nat} : ∀ {L : Nat} {bs : List Bool}, (out z L bs).count true + fin z L bs = L + bs.count true
  | L, [] => by simp [out, fin]
  | L, b :: r => by
    have ih := count_out (z := z) (L := (stp z L b).1) (bs := r)
    have e1 : out z L (b :: r) = (stp z L b).2 :: out z (stp z L b).1 r := rfl
    have e2 : fin z L (b :: r) = fin z (stp z L b).1 r := rfl
    rw [e1, e2, List.count_cons, List.count_cons]
    have k : (stp z L b).1 + (if (stp z L b).2 == true then 1 else 0) = L + (if b == true then 1 else 0) := by
      unfold stp
      cases b
      · simp only [Bool.false_eq_true, if_false]
        split <;> simp <;> omega
      · simp only [if_true]
        split <;> simp
    omega
/-- the places of the balls -/
def places : Int → List Bool → List Int
  | _, [] => []
  | lo, b :: r => (if b = true then [lo] else []) ++ places (lo + 1) r
theorem places_append : ∀ (lo : Int) (x y : List Bool), places lo (x ++ y) = places lo x ++ places (lo + (x.length : Int)) y
  | lo, [], y => by show places lo y = places (lo + ((0 : Nat) : Int)) y; congr 1; omega
  | lo, b :: r, y => by
    show _ ++ places (lo + 1) (r ++ y) = (_ ++ places (lo + 1) r) ++ places (lo + ((r.length + 1 : Nat) : Int)) y
    rw [places_append (lo + 1) r y, List.append_assoc]
    congr 3
    omega
theorem places_length : ∀ (lo : Int) (bs : List Bool), (places lo bs).length = bs.count true
  | _, [] => rfl
  | lo, b :: r => by
    show (_ ++ places (lo + 1) r).length = _
    rw [List.length_append, places_length (lo + 1) r, List.count_cons]
    cases b <;> simp <;> omega
theorem places_ge : ∀ {lo : Int} {bs : List Bool} {p : Int}, p ∈ places lo bs → lo ≤ p ∧ p < lo + (bs.length : Int)
  | lo, [], p, h => by cases h
  | lo, b :: r, p, h => by
    rcases List.mem_append.mp (show p ∈ (if b = true then [lo] else []) ++ places (lo + 1) r from h) with h | h
    · cases b
      · cases h
      · have : p = lo := by simpa using h
        subst this
        simp only [List.length_cons]
        omega
    · have := places_ge h
      simp only [List.length_cons]
      omega
theorem places_up : ∀ (lo : Int) (bs : List Bool), (places lo bs).Pairwise (· < ·)
  | _, [] => .nil
  | lo, b :: r => by
    refine List.pairwise_append.mpr ⟨by cases b <;> simp, places_up (lo + 1) r, fun x hx y hy => ?_⟩
    have := places_ge hy
    cases b
    · cases hx
    · have : x = lo := by simpa using hx
      omega
/-- as many places on from lo -/
def row (lo : Int) (n : Nat) : List Int := (List.range n).map fun (k : Nat) => lo + (k : Int)
theorem row_zero (lo : Int) : row lo 0 = [] := rfl
theorem row_succ (lo : Int) (n : Nat) : row lo (n + 1) = lo :: row (lo + 1) n := by
  unfold row
  rw [List.range_succ_eq_map, List.map_cons, List.map_map]
  congr 1
  · show lo + ((0 : Nat) : Int) = lo
    omega
  · refine List.map_congr_left fun k _ => ?_
    show lo + ((k + 1 : Nat) : Int) = lo + 1 + (k : Int)
    omega
/-- ball by ball -/
def sp (z : Nat) : Nat → Int → List Int → List Int
  | L, box, [] => row box L
  | L, box, p :: r => row box (min L (p - box).toNat) ++
    (if L - min L (p - box).toNat < z then sp z (L - min L (p - box).toNat + 1) (p + 1) r else p :: sp z (L - min L (p - box).toNat) (p + 1) r)
theorem sp_gap {z L : Nat} {lo : Int} {rw_ : List Int} (h : ∀ p ∈ rw_, lo + 1 ≤ p) : sp z L lo rw_ = if 0 < L then lo :: sp z (L - 1) (lo + 1) rw_ else sp z 0 (lo + 1) rw_ := by
  cases rw_ with
  | nil =>
    show row lo L = if 0 < L then lo :: row (lo + 1) (L - 1) else row (lo + 1) 0
    cases L with
    | zero => rfl
    | succ L => rw [if_pos (Nat.succ_pos L), row_succ]; rfl
  | cons p r =>
    have hp := h p (List.mem_cons_self ..)
    cases L with
    | zero =>
      rw [if_neg (by omega)]
      unfold sp
      rw [Nat.zero_min, Nat.zero_min]
      rfl
    | succ L =>
      rw [if_pos (Nat.succ_pos L)]
      have e : min (L + 1) (p - lo).toNat = min L (p - (lo + 1)).toNat + 1 := by omega
      unfold sp
      rw [e, row_succ, show L + 1 - 1 = L from rfl, show L + 1 - (min L (p - (lo + 1)).toNat + 1) = L - min L (p - (lo + 1)).toNat by omega]
      rfl
theorem sp_places (z : Nat) : ∀ (L : Nat) (lo : Int) (bs : List Bool), sp z L lo (places lo bs) = places lo (out z L bs) ++ row (lo + (bs.length : Int)) (fin z L bs)
  | L, lo, [] => by
    show row lo L = [] ++ row (lo + ((0 : Nat) : Int)) L
    rw [List.nil_append]
    congr 1
    omega
  | L, lo, false :: r => by
    have e : places lo (false :: r) = places (lo + 1) r := rfl
    rw [e, sp_gap fun p hp => (places_ge hp).1]
    have el : lo + 1 + (r.length : Int) = lo + ((false :: r).length : Int) := by simp only [List.length_cons]; omega
    by_cases c : 0 < L
    · rw [if_pos c, sp_places z (L - 1) (lo + 1) r, el]
      have e1 : stp z L false = (L - 1, true) := by unfold stp; simp only [Bool.false_eq_true, if_false, if_pos c]
      show _ = ((if (stp z L false).2 = true then [lo] else []) ++ places (lo + 1) (out z (stp z L false).1 r)) ++ row _ (fin z (stp z L false).1 r)
      rw [e1]
      rfl
    · rw [if_neg c, sp_places z 0 (lo + 1) r, el]
      have e1 : stp z L false = (0, false) := by unfold stp; simp only [Bool.false_eq_true, if_false, if_neg c]
      show _ = ((if (stp z L false).2 = true then [lo] else []) ++ places (lo + 1) (out z (stp z L false).1 r)) ++ row _ (fin z (stp z L false).1 r)
      rw [e1]
      rfl
  | L, lo, true :: r => by
    have e : places lo (true :: r) = lo :: places (lo + 1) r := rfl
    have el : lo + 1 + (r.length : Int) = lo + ((true :: r).length : Int) := by simp only [List.length_cons]; omega
    rw [e]
    unfold sp
    have em : min L (lo - lo).toNat = 0 := by rw [Int.sub_self]; exact Nat.min_zero L
    rw [em, row_zero, List.nil_append, Nat.sub_zero]
    by_cases c : L < z
    · rw [if_pos c, sp_places z (L + 1) (lo + 1) r, el]
      have e1 : stp z L true = (L + 1, false) := by unfold stp; simp only [if_true, if_pos c]
      show _ = ((if (stp z L true).2 = true then [lo] else []) ++ places (lo + 1) (out z (stp z L true).1 r)) ++ row _ (fin z (stp z L true).1 r)
      rw [e1]
      rfl
    · rw [if_neg c, sp_places z L (lo + 1) r, el]
      have e1 : stp z L true = (L, true) := by unfold stp; simp only [if_true, if_neg c]
      show _ = ((if (stp z L true).2 = true then [lo] else []) ++ places (lo + 1) (out z (stp z L true).1 r)) ++ row _ (fin z (stp z L true).1 r)
      rw [e1]
      rfl
theorem sp_free {z : Nat} {box box' : Int} : ∀ {r : List Int}, sp z 0 box r = sp z 0 box' r
  | [] => rfl
  | p :: r => by
    unfold sp
    rw [Nat.zero_min, Nat.zero_min]
    rfl
/-- the row behind a step of a carrier -/
def step (z : Nat) (r : List Int) : List Int := sp z 0 (r.headD 0) r
theorem step_places {z : Nat} {lo : Int} {bs : List Bool} (h : fin z 0 bs = 0) : step z (places lo bs) = places lo (out z 0 bs) := by
  unfold step
  rw [sp_free (box' := lo), sp_places, h, row_zero, List.append_nil]
/-- every rising row is the places of some boxes -/
theorem cells : ∀ (n : Nat) (lo : Int) (r : List Int), r.Pairwise (· < ·) → (∀ p ∈ r, lo ≤ p ∧ p < lo + (n : Int)) → ∃ bs : List Bool, bs.length = n ∧ places lo bs = r
  | 0, lo, r, _, h => by
    cases r with
    | nil => exact ⟨[], rfl, rfl⟩
    | cons p r => have := h p (List.mem_cons_self ..); omega
  | n + 1, lo, r, up, h => by
    cases r with
    | nil =>
      obtain ⟨bs, e1, e2⟩ := cells n (lo + 1) [] .nil (fun p hp => by cases hp)
      exact ⟨false :: bs, by rw [List.length_cons, e1], e2⟩
    | cons p r =>
      obtain ⟨u1, u2⟩ := List.pairwise_cons.mp up
      have hp := h p (List.mem_cons_self ..)
      by_cases c : p = lo
      · subst c
        obtain ⟨bs, e1, e2⟩ := cells n (p + 1) r u2 fun q hq => by
          have := u1 q hq
          have := h q (List.mem_cons_of_mem _ hq)
          omega
        refine ⟨true :: bs, by rw [List.length_cons, e1], ?_⟩
        show [p] ++ places (p + 1) bs = _
        rw [e2]
        rfl
      · obtain ⟨bs, e1, e2⟩ := cells n (lo + 1) (p :: r) up fun q hq => by
          have := h q hq
          rcases List.mem_cons.mp hq with rfl | hq'
          · omega
          · have := u1 q hq'
            omega
        exact ⟨false :: bs, by rw [List.length_cons, e1], e2⟩
theorem fin_falses (z : Nat) : ∀ (k L : Nat), fin z L (List.replicate k false) = L - k
  | 0, L => rfl
  | k + 1, L => by
    show fin z (stp z L false).1 (List.replicate k false) = _
    rw [fin_falses z k]
    unfold stp
    simp only [Bool.false_eq_true, if_false]
    split <;> simp only <;> omega
theorem places_falses : ∀ (k : Nat) (lo : Int), places lo (List.replicate k false) = []
  | 0, _ => rfl
  | k + 1, lo => places_falses k (lo + 1)
/-- with boxes enough behind, the carrier ends with nothing -/
theorem window (z : Nat) {A B : Int} {r : List Int} (up : r.Pairwise (· < ·)) (h : ∀ p ∈ r, A ≤ p ∧ p ≤ B) : ∃ bs : List Bool, places A bs = r ∧ fin z 0 bs = 0 ∧ bs.count true = r.length ∧ (r ≠ [] → A + (bs.length : Int) ≤ B + 1 + (r.length : Int)) := by
  obtain ⟨bs, e1, e2⟩ := cells (B + 1 - A).toNat A r up fun p hp => by have := h p hp; omega
  have hc : bs.count true = r.length := by rw [← places_length A bs, e2]
  have hf : fin z 0 bs ≤ r.length := by have := count_out (z := z) (L := 0) (bs := bs); omega
  refine ⟨bs ++ List.replicate (fin z 0 bs) false, ?_, ?_, ?_, fun ne => ?_⟩
  · rw [places_append, places_falses, List.append_nil, e2]
  · rw [fin_append, fin_falses, Nat.sub_self]
  · rw [List.count_append, hc]
    have : (List.replicate (fin z 0 bs) false).count true = 0 := by simp [List.count_replicate]
    omega
  · cases r with
    | nil => exact absurd rfl ne
    | cons p r =>
      have := h p (List.mem_cons_self ..)
      rw [List.length_append, List.length_replicate, e1]
      omega
/-- rising, so many, between A and B -/
structure Rw (r : List Int) (k : Nat) (A B : Int) : Prop where
  up : r.Pairwise (· < ·)
  len : r.length = k
  bd : ∀ p ∈ r, A ≤ p ∧ p ≤ B
theorem Rw.mono {r : List Int} {k : Nat} {A B A' B' : Int} (h : Rw r k A B) (ha : A' ≤ A) (hb : B ≤ B') : Rw r k A' B' := ⟨h.up, h.len, fun p hp => by have := h.bd p hp; omega⟩
theorem Rw.step {r : List Int} {k : Nat} {A B : Int} (z : Nat) (h : Rw r k A B) : Rw (step z r) k A (B + (k : Int)) := by
  obtain ⟨bs, e1, e2, e3, e4⟩ := window z h.up h.bd
  have hc := count_out (z := z) (L := 0) (bs := bs)
  rw [← e1, step_places e2]
  refine ⟨places_up _ _, by rw [places_length]; have := h.len; omega, fun p hp => ?_⟩
  have := places_ge hp
  rw [out_length] at this
  have ne : r ≠ [] := fun w => by
    have : (places A (out z 0 bs)).length = 0 := by rw [places_length]; rw [w] at e3; simp only [List.length_nil] at e3; omega
    rw [List.length_eq_zero_iff] at this
    rw [this] at hp
    cases hp
  have := e4 ne
  have := h.len
  omega
end BB
end
section
/-! Steps again and again, shifts, loads. -/
namespace BB
def it (f : List Int → List Int) : Nat → List Int → List Int
  | 0, r => r
  | n + 1, r => f (it f n r)
theorem Rw.its {z : Nat} {r : List Int} {k : Nat} {A B : Int} (h : Rw r k A B) : ∀ n : Nat, Rw (it (BB.step z) n r) k A (B + (n : Int) * (k : Int))
  | 0 => by
    show Rw r k A (B + ((0 : Nat) : Int) * (k : Int))
    rw [show ((0 : Nat) : Int) * (k : Int) = 0 by simp, Int.add_zero]
    exact h
  | n + 1 => by
    have := (h.its (z := z) n).step z
    rw [show B + ((n + 1 : Nat) : Int) * (k : Int) = B + (n : Int) * (k : Int) + (k : Int) by rw [Int.natCast_add, Int.add_mul]; omega]
    exact this
/-! shifts -/
/-! loads -/
def ld (L : Nat) (b : Bool) : Nat := if b then L + 1 else L - 1
def lst : Nat → List Bool → Nat
  | L, [] => L
  | L, b :: r => lst (ld L b) r
end BB
end
section
/-! name = [comprehension over one name]; two more built-ins. -/
namespace L2
open PySem PySem.Spec PyProof.Rows
set_option maxHeartbeats 4000000
set_option Elab.async false
set_option linter.unusedVariables false
structure Nb2 (mg : Str → Option Value) : Prop extends Nb mg where
  rev : mg "reversed" = none
  abs : mg "abs" = none
section
variable {X : Cx} {elt iter : Expr} {ifs : List Expr} {scope : Scope} {pos pos' spos : Pos} {N : List Str} {js : List Nat} {sc : Scope} {N0 : List Str} {wi : TI} {tt : TT} {te : TE} {x nm : Str} {px : Pos} {ii : Nat}
theorem ps_comp1 (hNd : X.N.Nodup) (hii : X.N[ii]? = some nm) (hloc : Loc X.env.scope nm) (hc : X.calm = true) (hsc : X.env.scope = sc) (hN : X.N = N0) (B : Blk sc N0 (x :: N) 1 js scope) (hx : scope.names.lookup x = some .local) (hi : PI X (.Name x px) iter wi)
    (ht : ∀ cl C s H fp, PTs (blk X (x :: N) scope cl C s H fp) ifs tt) (he : ∀ cl C s H fp, PE (blk X (x :: N) scope cl C s H fp) elt te)
    (hsw : swapsWith (.ListComp elt [⟨.Name x px, iter, ifs, 0⟩] scope pos) (some (.Name nm pos')) spos.line X.env = pure true := by rfl)
    (hf : X.fn nm = true ∨ X.env.scope.names.lookup nm = some .local := by first | exact .inl rfl | exact .inr rfl | assumption)
    (hs : ∀ x, foldedSetIterable iter X.env x = pure x := by intro _; rfl) : PS X (.Assign [.Name nm pos'] (.ListComp elt [⟨.Name x px, iter, ifs, 0⟩] scope pos) spos) (tSetC ii (tComp 1 js wi (gName 0) tt te)) :=
  ps_comp hNd hii hloc hc hsc hN B hi (fun cl C s H fp => pg_name (i := 0) B.nd rfl (.inl (blk_loc hx)) (.inr (blk_loc hx))) ht he hsw hf hs
end
end L2
end
section
set_option Elab.async false
set_option linter.all false
set_option maxRecDepth 100000
namespace L2
open PySem PySem.Spec PyProof.Rows

/-! ### lists of pairs as tables -/
section
variable {κ : Type} [DecidableEq κ]
def valV (kvs : List (κ × V)) (k : κ) : Option V := (kvs.find? fun kv => decide (kv.1 = k)).map (·.2)
/-- in its place, or at the end -/
def putK (kvs : List (κ × V)) (k : κ) (v : V) : List (κ × V) :=
  if (kvs.any fun kv => decide (kv.1 = k)) = true then kvs.map (fun kv => if kv.1 = k then (kv.1, v) else kv) else kvs ++ [(k, v)]
def dropK (kvs : List (κ × V)) (k : κ) : List (κ × V) := kvs.filter fun kv => decide (kv.1 ≠ k)

theorem valV_pos {p : κ × V} {r : List (κ × V)} {k : κ} (e : p.1 = k) : valV (p :: r) k = some p.2 := by simp [valV, List.find?_cons, e]
theorem valV_neg {p : κ × V} {r : List (κ × V)} {k : κ} (e : ¬ p.1 = k) : valV (p :: r) k = valV r k := by simp [valV, List.find?_cons, e]
theorem valV_any (k : κ) : ∀ kvs : List (κ × V), (kvs.any fun kv => decide (kv.1 = k)) = (valV kvs k).isSome
  | [] => rfl
  | p :: r => by
    rw [List.any_cons]
    by_cases e : p.1 = k
    · simp only [valV_pos e, decide_eq_true e, Bool.true_or, Option.isSome_some]
    · rw [valV_neg e, decide_eq_false e, Bool.false_or]; exact valV_any k r
theorem RelO.isSome_eq {o : Option V} {u : Option Value} (r : RelO o u) : o.isSome = u.isSome := by
  cases o with
  | none => cases u with
    | none => rfl
    | some _ => exact (show False from r).elim
  | some _ => cases u with
    | none => exact (show False from r).elim
    | some _ => rfl
theorem RelO.getD {o : Option V} {u : Option Value} {d : V} {d' : Value} (r : RelO o u) (rd : RelV d d') : RelV (o.getD d) (u.getD d') := by
  cases o with
  | none => cases u with
    | none => exact rd
    | some _ => exact (show False from r).elim
  | some _ => cases u with
    | none => exact (show False from r).elim
    | some _ => exact r

/-- raw tables of the same keys -/
theorem KV.val {kvs : List (κ × V)} {vs : List (κ × Value)} (r : KV kvs vs) (k : κ) : RelO (valV kvs k) (valueAt vs k) := by
  unfold KV at r
  induction r with
  | nil => exact True.intro
  | @cons p q ps qs h t ih =>
    obtain ⟨h1, h2⟩ := h
    by_cases e : p.1 = k
    · have e' : q.1 = k := h1.symm.trans e
      have b : valueAt (q :: qs) k = some q.2 := by simp [valueAt, List.find?_cons, e']
      rw [valV_pos e, b]; exact h2
    · have e' : ¬ q.1 = k := fun z => e (h1.trans z)
      have b : valueAt (q :: qs) k = valueAt qs k := by simp [valueAt, List.find?_cons, e']
      rw [valV_neg e, b]; exact ih
theorem KV.any {kvs : List (κ × V)} {vs : List (κ × Value)} (r : KV kvs vs) (k : κ) : (kvs.any fun kv => decide (kv.1 = k)) = vs.any fun kv => decide (kv.1 = k) := by
  unfold KV at r
  induction r with
  | nil => rfl
  | cons h t ih => rw [List.any_cons, List.any_cons, ih, h.1]
theorem KV.repl {kvs : List (κ × V)} {vs : List (κ × Value)} (r : KV kvs vs) (k : κ) {y : V} {u : Value} (ry : RelV y u) :
    KV (kvs.map fun kv => if kv.1 = k then (kv.1, y) else kv) (vs.map fun kv => if kv.1 = k then (kv.1, u) else kv) := by
  unfold KV at r ⊢
  induction r with
  | nil => exact .nil
  | @cons p q ps qs h t ih =>
    rw [List.map_cons, List.map_cons]
    refine .cons ?_ ih
    obtain ⟨h1, h2⟩ := h
    by_cases e : p.1 = k
    · rw [if_pos e, if_pos (h1.symm.trans e)]; exact ⟨h1, ry⟩
    · rw [if_neg e, if_neg (fun z => e (h1.trans z))]; exact ⟨h1, h2⟩
theorem KV.put {kvs : List (κ × V)} {vs : List (κ × Value)} (r : KV kvs vs) (k : κ) {y : V} {u : Value} (ry : RelV y u) : KV (putK kvs k y) (stored vs k u) := by
  unfold putK stored
  rw [r.any k]
  by_cases e : (vs.any fun kv => decide (kv.1 = k)) = true
  · rw [if_pos e, if_pos e]; exact r.repl k ry
  · rw [if_neg e, if_neg e]; exact Paired.snoc r ⟨rfl, ry⟩
theorem KV.drop {kvs : List (κ × V)} {vs : List (κ × Value)} (r : KV kvs vs) (k : κ) : KV (dropK kvs k) (without vs k) := by
  unfold KV at r ⊢
  unfold dropK without
  induction r with
  | nil => exact .nil
  | @cons p q ps qs h t ih =>
    obtain ⟨h1, h2⟩ := h
    rw [List.filter_cons, List.filter_cons]
    by_cases e : p.1 = k
    · have a : ¬ decide (p.1 ≠ k) = true := by simp [e]
      have b : ¬ decide (q.1 ≠ k) = true := by simp [h1.symm.trans e]
      rw [if_neg a, if_neg b]; exact ih
    · have e' : ¬ q.1 = k := fun z => e (h1.trans z)
      have a : decide (p.1 ≠ k) = true := by simp [e]
      have b : decide (q.1 ≠ k) = true := by simp [e']
      rw [if_pos a, if_pos b]; exact .cons ⟨h1, h2⟩ ih
theorem KV.length {kvs : List (κ × V)} {vs : List (κ × Value)} (r : KV kvs vs) : kvs.length = vs.length := Paired.length r
end


/-! ### a tracked dict, its keys ints and texts or tuples of these -/
/-- raw entries of a dict with tuple keys -/
abbrev KT (H : Hp) : List (List Key × V) → List (List Key × Addr × Value) → Prop := Paired fun p q => p.1 = q.1 ∧ H q.2.1 = some (.tup (p.1.map kV)) ∧ RelV p.2 q.2.2
theorem KT.val {H : Hp} {kvs : List (List Key × V)} {xs : List (List Key × Addr × Value)} (r : KT H kvs xs) (k : List Key) : RelO (valV kvs k) ((atKey xs k).map (·.2)) := by
  induction r with
  | nil => exact True.intro
  | @cons p q ps qs h t ih =>
    obtain ⟨h1, _, h2⟩ := h
    by_cases e : p.1 = k
    · have e' : q.1 = k := h1.symm.trans e
      have b : atKey (q :: qs) k = some q.2 := by simp [atKey, List.find?_cons, e']
      rw [valV_pos e, b]; exact h2
    · have e' : ¬ q.1 = k := fun z => e (h1.trans z)
      have b : atKey (q :: qs) k = atKey qs k := by simp [atKey, List.find?_cons, e']
      rw [valV_neg e, b]; exact ih
theorem KT.repl {H : Hp} {kvs : List (List Key × V)} {xs : List (List Key × Addr × Value)} (r : KT H kvs xs) (k : List Key) {y : V} {u : Value} (ry : RelV y u) :
    KT H (kvs.map fun kv => if kv.1 = k then (kv.1, y) else kv) (xs.map (putAt k u)) := by
  induction r with
  | nil => exact .nil
  | @cons p q ps qs h t ih =>
    rw [List.map_cons, List.map_cons]
    refine .cons ?_ ih
    obtain ⟨h1, h2, h3⟩ := h
    unfold putAt
    by_cases e : p.1 = k
    · rw [if_pos e, if_pos (h1.symm.trans e)]; exact ⟨h1, h2, ry⟩
    · rw [if_neg e, if_neg (fun z => e (h1.trans z))]; exact ⟨h1, h2, h3⟩
theorem KT.put {H : Hp} {kvs : List (List Key × V)} {xs : List (List Key × Addr × Value)} (r : KT H kvs xs) (k : List Key) {b : Addr} {y : V} {u : Value} (hb : H b = some (.tup (k.map kV))) (ry : RelV y u) :
    KT H (putK kvs k y) (storedH xs k b u) := by
  have e : (kvs.any fun kv => decide (kv.1 = k)) = (atKey xs k).isSome := by
    rw [valV_any, (r.val k).isSome_eq, Option.isSome_map]
  unfold putK storedH
  rw [e]
  by_cases q : (atKey xs k).isSome = true
  · rw [if_pos q, if_pos q]; exact r.repl k ry
  · rw [if_neg q, if_neg q]; exact Paired.snoc r ⟨rfl, hb, ry⟩
theorem KT.keeps {H H' : Hp} {kvs : List (List Key × V)} {xs : List (List Key × Addr × Value)} (r : KT H kvs xs) (ht : ∀ b ys, H b = some (.tup ys) → H' b = some (.tup ys)) : KT H' kvs xs :=
  Paired.mapP r fun _ _ z => ⟨z.1, ht _ _ z.2.1, z.2.2⟩

section
variable {P : Program} {w : World} {H : Hp} {h : Heap} {a : Addr}
end

/-- what the dict at a holds at the key y -/
def DGet (H : Hp) (a : Addr) (y : V) (r : Option V) : Prop :=
  (∃ kvs k, Rd H a (.dK kvs) ∧ y = kV k ∧ r = valV kvs k) ∨ ∃ kvs k b, Rd H a (.dT kvs) ∧ y = .ref b ∧ H b = some (.tup (k.map kV)) ∧ r = valV kvs k
/-- the heap behind a[y] = v -/
def DPut (H : Hp) (a : Addr) (y v : V) (H' : Hp) : Prop :=
  (∃ kvs k, H a = some (.dK kvs) ∧ y = kV k ∧ kvs.length < sizeLine ∧ H' = upd H a (.dK (putK kvs k v))) ∨
  ∃ kvs k b, H a = some (.dT kvs) ∧ y = .ref b ∧ H b = some (.tup (k.map kV)) ∧ kvs.length < sizeLine ∧ H' = upd H a (.dT (putK kvs k v))
theorem DGet.k {H : Hp} {a : Addr} {kvs : List (Key × V)} {k : Key} (e : H a = some (.dK kvs)) : DGet H a (kV k) (valV kvs k) := .inl ⟨kvs, k, .inl e, rfl, rfl⟩
theorem DGet.t {H : Hp} {a b : Addr} {kvs : List (List Key × V)} {k : List Key} (e : H a = some (.dT kvs)) (eb : H b = some (.tup (k.map kV))) : DGet H a (.ref b) (valV kvs k) := .inr ⟨kvs, k, b, .inl e, rfl, eb, rfl⟩
theorem DPut.k {H : Hp} {a : Addr} {kvs : List (Key × V)} {k : Key} {v : V} (e : H a = some (.dK kvs)) (hl : kvs.length < sizeLine) : DPut H a (kV k) v (upd H a (.dK (putK kvs k v))) := .inl ⟨kvs, k, e, rfl, hl, rfl⟩
theorem DPut.t {H : Hp} {a b : Addr} {kvs : List (List Key × V)} {k : List Key} {v : V} (e : H a = some (.dT kvs)) (eb : H b = some (.tup (k.map kV))) (hl : kvs.length < sizeLine) :
    DPut H a (.ref b) v (upd H a (.dT (putK kvs k v))) := .inr ⟨kvs, k, b, e, rfl, eb, hl, rfl⟩


section
variable {X : Cx} {pins : List (Addr × Obj)} {σ : St} {H : Hp} {s : Shared} {a : Addr} {y v : V} {u r : Value} {o : Option V} {A : Around} {E : Value → Shared → Prop}

theorem Inv.big (I : Inv X pins σ H s) : sysModules < s.heap.objs.size := by
  have h : mainGlobals < s.heap.objs.size := (I.mod.glob.keeps I.bk).lt
  exact Nat.lt_trans (by decide) h

end

section
variable {X : Cx} {pins : List (Addr × Obj)} {σ : St} {H : Hp} {s : Shared} {a : Addr} {kvs : List (Key × V)} {k : Key} {u : Value} {A : Around} {E : Value → Shared → Prop}
end


/-! ### readings and rules -/
section
variable {X : Cx} {o i e value : Expr} {pos pos' tpos : Pos} {td ty tv : TE}
end


/-! ### displays -/
section
variable {X : Cx} {pos : Pos}
end

/-! ### methods -/
/-- a method call o.m(e) of a built-in, with one argument: what must be seen of the text -/
structure M1 (X : Cx) (o : Expr) (m : Str) (apos : Pos) (e : Expr) (cpos : Pos) : Prop where
  base : attributeBase o m X.env (eval o X.env) = eval o X.env
  few : ((backTo cpos (starEach [e] X.env)).all (fun x => !x.1) && (backToKw cpos (keywordEach [] X.env)).all (fun x => x.1.isSome)
    && decide (([e] : List Expr).length + ([] : List Keyword).length + (if ([] : List Keyword).isEmpty then 0 else 1) < 30)) = true
  line : (apos.endLine == cpos.line) = true
  trees : backTo cpos (starEach [e] X.env) = [(false, eval e X.env)]
structure M2 (X : Cx) (o : Expr) (m : Str) (apos : Pos) (e f : Expr) (cpos : Pos) : Prop where
  base : attributeBase o m X.env (eval o X.env) = eval o X.env
  few : ((backTo cpos (starEach [e, f] X.env)).all (fun x => !x.1) && (backToKw cpos (keywordEach [] X.env)).all (fun x => x.1.isSome)
    && decide (([e, f] : List Expr).length + ([] : List Keyword).length + (if ([] : List Keyword).isEmpty then 0 else 1) < 30)) = true
  line : (apos.endLine == cpos.line) = true
  trees : backTo cpos (starEach [e, f] X.env) = [(false, eval e X.env), (false, eval f X.env)]

section
variable {X : Cx} {pins : List (Addr × Obj)} {σ : St} {H : Hp} {s : Shared} {a : Addr} {y d : V} {u r : Value} {o : Option V} {A : Around} {E : Value → Shared → Prop}
end

section
variable {X : Cx} {o e f : Expr} {apos cpos : Pos} {td ty tx : TE}
end

/-! ### dict(d): a copy -/
section
variable {X : Cx} {pins : List (Addr × Obj)} {σ : St} {H : Hp} {s : Shared} {a : Addr} {kvs : List (Key × V)} {A : Around} {E : Value → Shared → Prop}
end


section
variable {X : Cx} {pins : List (Addr × Obj)} {σ : St} {H : Hp} {s : Shared} {a : Addr} {y : V} {u : Value} {A : Around} {E : Value → Shared → Prop}
end
end L2
namespace L2
open PySem PySem.Spec PyProof.Rows
/-! ### a dict's pairs: keys that differ -/
section
variable {κ : Type} [DecidableEq κ]
end
end L2
end
section
/-! sorted(d) of a dict with int keys. -/
namespace L2
open PySem PySem.Spec PyProof.Rows
set_option maxHeartbeats 4000000
set_option maxRecDepth 100000
set_option Elab.async false
set_option linter.unusedVariables false
section
variable {X : Cx}
end
end L2
end
section
/-! isinstance(x, (list, tuple)); zip of two tuples or two lists, whichever. -/
namespace L2
open PySem PySem.Spec PyProof.Rows
set_option maxHeartbeats 4000000
set_option maxRecDepth 100000
set_option Elab.async false
set_option linter.unusedVariables false
section
variable {X : Cx} {pins : List (Addr × Obj)} {σ : St} {H : Hp} {s : Shared} {A : Around} {E : Value → Shared → Prop} {Q : Value → Shared → Prop}
def seqT (T : String) : Bool := T == "list" || T == "tuple"
theorem isi_many {x : V} {u : Value} {T : String} {p : Addr} {its : List Value} {b : Bool} (I : Inv X pins σ H s) (rx : RelV x u) (hk : Kn H x T) (hp : IsTup s.heap p its.toArray) (e : PySem.W.kitAny X.K (.type T) its = some b)
    (h : ∀ tk, Q (.bool b) { s with toks := tk }) : wpAny (model X.prog X.w) A (call (.builtin "isinstance") [u, .ref p]) Q E s := by
  obtain ⟨⟨c, dd, da, sl⟩, ho, hc, n, hd⟩ := hp
  simp only at hc hd
  subst hc hd
  cases hk with
  | non => cases (show u = Value.none from rx); exact PySem.W.kia_tup PySem.W.kitx_none I.kIn True.intro ho e (fun z => nomatch z) h
  | bl y => cases (show u = Value.bool y from rx); exact PySem.W.kia_tup PySem.W.kitx_bool I.kIn True.intro ho e (fun z => nomatch z) h
  | int i => obtain ⟨t, q⟩ := (show ∃ t, u = Value.int i t from rx); cases q; exact PySem.W.kia_tup PySem.W.kitx_int I.kIn True.intro ho e (fun z => nomatch z) h
  | str y => obtain ⟨t, q⟩ := (show ∃ t, u = Value.str y t from rx); cases q; exact PySem.W.kia_tup PySem.W.kitx_str I.kIn True.intro ho e (fun z => nomatch z) h
  | @lst a xs ea =>
    cases (show u = Value.ref a from rx)
    obtain ⟨_, _, n, _, h1⟩ := (show ObjOk X.prog X.w H s.heap a (.lst xs) from I.hok a _ ea)
    exact PySem.W.kia_tup PySem.W.kitx_list I.kIn ⟨_, h1, rfl⟩ ho e (fun z => nomatch z) h
  | @tup a xs ea =>
    cases (show u = Value.ref a from rx)
    obtain ⟨_, _, _, o, h1, hc, _⟩ := (show ObjOk X.prog X.w H s.heap a (.tup xs) from I.hok a _ ea)
    exact PySem.W.kia_tup PySem.W.kitx_tuple I.kIn ⟨o, h1, hc⟩ ho e (fun z => nomatch z) h
  | @dK a kvs ea =>
    cases (show u = Value.ref a from rx)
    obtain ⟨_, _, _, _, m⟩ := (show ObjOk X.prog X.w H s.heap a (.dK kvs) from I.hok a _ ea)
    exact PySem.W.kia_tup PySem.W.kitx_dict I.kIn m.typeIs ho e (fun z => nomatch z) h
theorem any_seq {K : PySem.W.Frag} {H : Hp} {x : V} {T : String} (h : Kn H x T) : PySem.W.kitAny K (.type T) [.type "list", .type "tuple"] = some (seqT T) ∧ PySem.W.kitAny K (.type T) [.type "tuple", .type "list"] = some (seqT T) := by
  cases h <;> exact ⟨rfl, rfl⟩
end
section
variable {X : Cx}
theorem call_isiT : CallR X (.builtin "isinstance") (fun xs H Q => ∃ x T p, xs = [x, .ref p] ∧ Kn H x T ∧ (H p = some (.tup [.ty "list", .ty "tuple"]) ∨ H p = some (.tup [.ty "tuple", .ty "list"])) ∧ Q (.bl (seqT T)) H) := by
  intro pins s σ H xs us Q I r h
  obtain ⟨x, T, p, rfl, hk, hp, q⟩ := h
  obtain ⟨u, c, rfl, rx, rc⟩ := vals2 r
  cases (show c = Value.ref p from rc)
  have two : ∀ (U W : String), H p = some (.tup [.ty U, .ty W]) → IsTup s.heap p [Value.type U, Value.type W].toArray := fun U W e => by
    obtain ⟨_, its, rv, ht⟩ := (show ObjOk X.prog X.w H s.heap p (.tup [.ty U, .ty W]) from I.hok p _ e)
    obtain ⟨a, b, rfl, ra, rb⟩ := vals2 rv
    cases (show a = Value.type U from ra)
    cases (show b = Value.type W from rb)
    exact ht
  rcases hp with hp | hp
  · exact isi_many I rx hk (two _ _ hp) (any_seq hk).1 fun tk => ⟨.bl (seqT T), H, I.tok tk, rfl, q⟩
  · exact isi_many I rx hk (two _ _ hp) (any_seq hk).2 fun tk => ⟨.bl (seqT T), H, I.tok tk, rfl, q⟩
def iZipE (K : PySem.W.Frag) (ta : TA) : TI := fun σ H R => ta σ H fun vs H1 => ∃ t l m xs ys, vs = [.ref l, .ref m] ∧ SqK t K H1 l xs ∧ SqK t K H1 m ys ∧ R (Itz t K l m) H1
theorem pi_zipE {es : List Expr} {k0 : Nat} {tp : Pos} {a b : Expr} {ta : TA} {p pos : Pos} (hg : Gl X "zip") (hm : X.mg "zip" = none) (ha : PA X [a, b] ta) (hs : starEach [a, b] X.env = [(false, eval a X.env), (false, eval b X.env)] := by rfl) (hs2 : starEach [b] X.env = [(false, eval b X.env)] := by rfl) :
    PI X (.Tuple es k0 tp) (.Call (.Name "zip" p) [a, b] [] pos) (iZipE X.K ta) := by
  intro pins s σ H R I h
  refine Call_ (ld_blt I hg hm boot_zip (PyProof.Rows.callWith_type1 (thn (ha pos pins s σ H _ I h) fun us s1 ⟨vs, H1, I1, r1, q1⟩ => ?_) (by rw [hs, hs2]) (by rw [hs2]; rfl)))
  obtain ⟨t, l, m, xs, ys, e, hl, hm', q⟩ := q1
  subst e
  obtain ⟨u, u', rfl, ru, ru'⟩ := vals2 r1
  cases (show u = Value.ref l from ru)
  cases (show u' = Value.ref m from ru')
  obtain ⟨its, _, ⟨ol, eol, _⟩, _⟩ := I1.sqk hl
  obtain ⟨jts, _, ⟨om, eom, _⟩, _⟩ := I1.sqk hm'
  have ll : l < s1.heap.objs.size := Heap.lt_size eol
  have lm : m < s1.heap.objs.size := Heap.lt_size eom
  have fin : ∀ h' : Heap, IsZip h' (s1.heap.objs.size + 4) (s1.heap.objs.size + 2) (s1.heap.objs.size + 3) .none → IsPair h' (s1.heap.objs.size + 2) (.ref s1.heap.objs.size) (.ref (s1.heap.objs.size + 1)) →
      IsPair h' (s1.heap.objs.size + 3) .none .none → ItAt t s1.heap.objs.size l 0 h' → ItAt t (s1.heap.objs.size + 1) m 0 h' → (∀ c o, s1.heap.get? c = some o → h'.get? c = some o) →
      wpAny (model X.prog X.w) X.A (pyIter (.ref (s1.heap.objs.size + 4))) (PIE X pins σ (.Tuple es k0 tp) R) X.xe { s1 with heap := h' } := fun h' z1 z2 z3 z4 z5 kp => by
    have I2 : Inv X pins σ H1 { s1 with heap := h' } := I1.kept (t' := s1.toks) kp
    refine wpAny_pyIter_zip z1 ⟨s1.heap.objs.size + 4, [s1.heap.objs.size + 4, s1.heap.objs.size + 2, s1.heap.objs.size + 3, s1.heap.objs.size, s1.heap.objs.size + 1], _, _, H1, rfl, I2,
      turn_zip (t := t) (l := l) (m := m) (apart_nat _ (a := 2) (b := 4) (by decide)) (apart_nat _ (a := 3) (b := 4) (by decide)) (apart_nat _ (a := 0) (b := 4) (by decide)) (apart_nat _ (a := 1) (b := 4) (by decide)) (apart_nat _ (a := 2) (b := 3) (by decide)) (apart_nat _ (a := 2) (b := 0) (by decide)) (apart_nat _ (a := 2) (b := 1) (by decide)) (apart_nat _ (a := 3) (b := 0) (by decide)) (apart_nat _ (a := 3) (b := 1) (by decide)) (apart_nat _ (a := 0) (b := 1) (by decide)) (fun z => ?_) (fun z => ?_), ⟨z1, z2, ⟨_, _, z3⟩, z4, z5⟩, fun c hc => ?_, q⟩
    · simp only [List.mem_cons, List.not_mem_nil, or_false] at z; exact not_fresh5 ll z
    · simp only [List.mem_cons, List.not_mem_nil, or_false] at z; exact not_fresh5 lm z
    · have hcs : s1.heap.objs.size ≤ c := by simp only [List.mem_cons, List.not_mem_nil, or_false] at hc; exact fresh5 hc
      exact I1.fpOk hcs (I1.hok.fresh hcs)
  cases t
  · obtain ⟨its, _, pl, _⟩ := I1.list (show SqL X.K H1 l xs from hl)
    obtain ⟨jts, _, pm, _⟩ := I1.list (show SqL X.K H1 m ys from hm')
    exact call_zip_2 pl.isList pm.isList fun h' z1 z2 z3 z4 z5 _ kp => fin h' z1 z2 z3 z4 z5 kp
  · obtain ⟨its, _, pl, _⟩ := I1.tuple (show SqT X.K H1 l xs from hl)
    obtain ⟨jts, _, pm, _⟩ := I1.tuple (show SqT X.K H1 m ys from hm')
    exact zip_tups pl pm fun h' z1 z2 z3 z4 z5 kp => fin h' z1 z2 z3 z4 z5 kp
theorem items_zipL {K : PySem.W.Frag} {a b : Addr} {xs ys : List V} {H1 : Hp} (h : H1 a = some (.lst xs)) (h' : H1 b = some (.lst ys)) (i : Nat) (H : Hp) (s : Same H1 H) :
    (i < min xs.length ys.length → (Itz false K a b).go i H ∧ ∀ v H2, (Itz false K a b).yld i H v H2 → Same H H2 ∧ ∃ p x y, v = .ref p ∧ H2 p = some (.tup [x, y]) ∧ xs[i]? = some x ∧ ys[i]? = some y) ∧ (min xs.length ys.length ≤ i → (Itz false K a b).stop i H) := by
  have q : SqK false K H a xs := SqL.of (s _ _ h)
  have q' : SqK false K H b ys := SqL.of (s _ _ h')
  refine ⟨fun hi => ⟨⟨xs, ys, xs[i]'(by omega), ys[i]'(by omega), q, q', List.getElem?_eq_getElem (by omega), List.getElem?_eq_getElem (by omega)⟩, fun v H2 ⟨p, x, y, e1, e2, e3, e4, e5⟩ => ?_⟩, fun hi => ⟨xs, ys, q, q', ?_⟩⟩
  · subst e3
    exact ⟨same_new e2 _, p, x, y, e1, upd_same, e4 xs q, e5 ys q'⟩
  · by_cases hx : xs.length ≤ i
    · exact .inl (List.getElem?_eq_none hx)
    · exact .inr (List.getElem?_eq_none (by omega))
/-- two things that are the same, n deep -/
def Sm (H : Hp) : Nat → V → V → Prop
  | 0, x, y => (x = y ∧ ((∃ i, x = .int i) ∨ (∃ b, x = .bl b) ∨ (∃ z, x = .str z) ∨ x = .non))
  | n + 1, x, y => (x = y ∧ ((∃ i, x = .int i) ∨ (∃ b, x = .bl b) ∨ (∃ z, x = .str z) ∨ x = .non)) ∨
    ∃ (a b : Addr) (xs ys : List V), x = .ref a ∧ y = .ref b ∧ ((H a = some (.tup xs) ∧ H b = some (.tup ys)) ∨ (H a = some (.lst xs) ∧ H b = some (.lst ys))) ∧ xs.length = ys.length ∧ xs.length ≤ 1000 ∧
      ∀ (i : Nat) (u v : V), xs[i]? = some u → ys[i]? = some v → Sm H n u v
theorem Sm.same {H H' : Hp} (s : Same H H') : ∀ {n : Nat} {x y : V}, Sm H n x y → Sm H' n x y
  | 0, _, _, h => h
  | n + 1, x, y, h => by
    rcases h with h | ⟨a, b, xs, ys, e1, e2, e3, e4, e5, e6⟩
    · exact .inl h
    · refine .inr ⟨a, b, xs, ys, e1, e2, ?_, e4, e5, fun i u v hu hv => (e6 i u v hu hv).same s⟩
      rcases e3 with ⟨p, q⟩ | ⟨p, q⟩
      · exact .inl ⟨s _ _ p, s _ _ q⟩
      · exact .inr ⟨s _ _ p, s _ _ q⟩
end
end L2
end
section
/-! dict(l) of a list of pairs. -/
namespace L2
open PySem PySem.Spec PyProof.Rows
set_option maxHeartbeats 4000000
set_option maxRecDepth 100000
set_option Elab.async false
set_option linter.unusedVariables false
section
variable {prog : Program} {w : World} {A : Around} {R : Result → Shared → Prop}
/-- how far the loop has come -/
structure DL (prog : Program) (w : World) (l it d : Addr) (vs : List Value) (kvs : List (Key × Value)) (i : Nat) (h : Heap) : Prop where
  po : h.IsListIter it l i
  ls : h.IsList l vs.toArray
  dt : h.DictOf (mixKind prog w) d (kvs.take i)
  pr : ∀ (j : Nat) (v : Value), vs[j]? = some v → ∃ (p : Addr) (k : Key) (key x : Value), v = Value.ref p ∧ IsTup h p #[key, x] ∧ kvs[j]? = some (k, x) ∧ (mixKind prog w).is k key = true
theorem cls_ne {h : Heap} {a b : Addr} {o o' : Obj} {T U : String} (e : h.get? a = some o) (e' : h.get? b = some o') (c : o.cls = .type T) (c' : o'.cls = .type U) (n : T ≠ U) : a ≠ b := fun z => by
  rw [z, e'] at e
  cases e
  rw [c] at c'
  injection c' with z
  exact n z
theorem DL.ne {l it d : Addr} {vs : List Value} {kvs : List (Key × Value)} {i : Nat} {h : Heap} (D : DL prog w l it d vs kvs i h) : d ≠ it := by
  obtain ⟨o, es, ep, ho, ⟨hc, _⟩, _⟩ := D.dt
  obtain ⟨o', ho', hc', _⟩ := D.po
  exact cls_ne ho ho' hc hc' (by decide)
end
end L2
end
section
namespace L2
open PySem PySem.Spec PyProof.Rows
set_option maxHeartbeats 4000000
set_option maxRecDepth 100000
set_option Elab.async false
set_option linter.unusedVariables false
section
variable {prog : Program} {w : World} {A : Around} {s : Shared} {R : Result → Shared → Prop}
end
section
variable {X : Cx}
end
end L2
end
section
/-! Ball by ball: each to the next box that is empty. -/
namespace BB
/-- the first place from x on that is none of R's -/
def nx : Int → List Int → Int
  | x, [] => x
  | x, q :: R => if q < x then nx x R else if q = x then nx (x + 1) R else x
theorem nx_past {x q : Int} {R : List Int} (h : q < x) : nx x (q :: R) = nx x R := by
  show (if q < x then nx x R else _) = _
  rw [if_pos h]
theorem nx_ge : ∀ (R : List Int) (x : Int), x ≤ nx x R
  | [], x => Int.le_refl x
  | q :: R, x => by
    unfold nx
    split
    · exact nx_ge R x
    · split
      · have := nx_ge R (x + 1); omega
      · exact Int.le_refl x
theorem nx_not : ∀ (R : List Int) (x : Int), R.Pairwise (· < ·) → nx x R ∉ R
  | [], _, _ => by simp
  | q :: R, x, up => by
    obtain ⟨u1, u2⟩ := List.pairwise_cons.mp up
    unfold nx
    split
    · intro z
      rcases List.mem_cons.mp z with z | z
      · have := nx_ge R x; omega
      · exact nx_not R x u2 z
    · split
      · intro z
        rcases List.mem_cons.mp z with z | z
        · have := nx_ge R (x + 1); omega
        · exact nx_not R (x + 1) u2 z
      · intro z
        rcases List.mem_cons.mp z with z | z
        · omega
        · have := u1 x z; omega
theorem nx_mid : ∀ (R : List Int) (x y : Int), x ≤ y → y < nx x R → y ∈ R
  | [], x, y, h1, h2 => by unfold nx at h2; omega
  | q :: R, x, y, h1, h2 => by
    unfold nx at h2
    split at h2
    · exact List.mem_cons_of_mem _ (nx_mid R x y h1 h2)
    · split at h2
      · by_cases e : y = q
        · rw [e]; exact List.mem_cons_self ..
        · exact List.mem_cons_of_mem _ (nx_mid R (x + 1) y (by omega) h2)
      · omega
/-- the first n places from b on that are none of R's -/
def emp : Nat → Int → List Int → List Int
  | 0, _, _ => []
  | n + 1, b, R => nx b R :: emp n (nx b R + 1) R
/-- and the one behind them -/
def gy : Nat → Int → List Int → Int
  | 0, b, R => nx b R
  | n + 1, b, R => gy n (nx b R + 1) R
theorem emp_gy : ∀ (n : Nat) (b : Int) (R : List Int), emp (n + 1) b R = emp n b R ++ [gy n b R]
  | 0, _, _ => rfl
  | n + 1, b, R => by
    show nx b R :: emp (n + 1) (nx b R + 1) R = nx b R :: (emp n (nx b R + 1) R ++ [gy n (nx b R + 1) R])
    rw [emp_gy n]
theorem gy_ge : ∀ (n : Nat) (b : Int) (R : List Int), b ≤ gy n b R
  | 0, b, R => nx_ge R b
  | n + 1, b, R => by
    have := gy_ge n (nx b R + 1) R
    have := nx_ge R b
    show b ≤ gy n (nx b R + 1) R
    omega
theorem gy_not : ∀ (n : Nat) (b : Int) (R : List Int), R.Pairwise (· < ·) → gy n b R ∉ R
  | 0, b, R, up => nx_not R b up
  | n + 1, b, R, up => gy_not n _ R up
theorem emp_lt : ∀ (n : Nat) (b : Int) (R : List Int) (x : Int), x ∈ emp n b R → b ≤ x ∧ x < gy n b R
  | 0, _, _, x, h => by cases h
  | n + 1, b, R, x, h => by
    have g := gy_ge n (nx b R + 1) R
    have e := nx_ge R b
    rcases List.mem_cons.mp (show x ∈ nx b R :: emp n (nx b R + 1) R from h) with rfl | h
    · exact ⟨e, show nx b R < gy n (nx b R + 1) R by omega⟩
    · have := emp_lt n _ R x h
      exact ⟨by omega, this.2⟩
theorem gy_mid : ∀ (n : Nat) (b : Int) (R : List Int) (z : Int), b ≤ z → z < gy n b R → z ∈ R ∨ z ∈ emp n b R
  | 0, b, R, z, h1, h2 => .inl (nx_mid R b z h1 h2)
  | n + 1, b, R, z, h1, h2 => by
    by_cases c : z < nx b R
    · exact .inl (nx_mid R b z h1 c)
    · by_cases d : z = nx b R
      · exact .inr (by rw [d]; exact List.mem_cons_self ..)
      · rcases gy_mid n (nx b R + 1) R z (by omega) h2 with h | h
        · exact .inl h
        · exact .inr (List.mem_cons_of_mem _ h)
theorem emp_past {p : Int} {r : List Int} : ∀ (n : Nat) (z : Int), p < z → emp n z (p :: r) = emp n z r
  | 0, _, _ => rfl
  | n + 1, z, h => by
    show nx z (p :: r) :: emp n (nx z (p :: r) + 1) (p :: r) = nx z r :: emp n (nx z r + 1) r
    rw [nx_past h, emp_past n _ (by have := nx_ge r z; omega)]
theorem emp_on {p : Int} {r : List Int} : ∀ (n : Nat), emp n p (p :: r) = emp n (p + 1) r
  | 0 => rfl
  | n + 1 => by
    have e : nx p (p :: r) = nx (p + 1) r := by
      show (if p < p then nx p r else if p = p then nx (p + 1) r else p) = _
      rw [if_neg (by omega), if_pos rfl]
    show nx p (p :: r) :: emp n (nx p (p :: r) + 1) (p :: r) = nx (p + 1) r :: emp n (nx (p + 1) r + 1) r
    rw [e, emp_past n _ (by have := nx_ge r (p + 1); omega)]
theorem emp_cut {p : Int} {r : List Int} : ∀ (L : Nat) (box : Int), box ≤ p → emp L box (p :: r) = row box (min L (p - box).toNat) ++ emp (L - min L (p - box).toNat) (p + 1) r
  | 0, box, _ => by rw [Nat.zero_min]; rfl
  | L + 1, box, h => by
    by_cases c : box = p
    · subst c
      rw [Int.sub_self, show min (L + 1) (0 : Int).toNat = 0 from Nat.min_zero _, row_zero, List.nil_append, Nat.sub_zero]
      exact emp_on (L + 1)
    · have e : nx box (p :: r) = box := by
        unfold nx
        rw [if_neg (by omega), if_neg (by omega)]
      show nx box (p :: r) :: emp L (nx box (p :: r) + 1) (p :: r) = _
      rw [e, emp_cut L (box + 1) (by omega)]
      have em : min (L + 1) (p - box).toNat = min L (p - (box + 1)).toNat + 1 := by omega
      rw [em, row_succ, show L + 1 - (min L (p - (box + 1)).toNat + 1) = L - min L (p - (box + 1)).toNat by omega]
      rfl
theorem emp_nil : ∀ (L : Nat) (box : Int), emp L box [] = row box L
  | 0, _ => rfl
  | L + 1, box => by
    rw [row_succ]
    show box :: emp L (box + 1) [] = _
    rw [emp_nil L]
theorem mem_row {lo : Int} {n : Nat} {x : Int} (h : x ∈ row lo n) : lo ≤ x ∧ x < lo + (n : Int) := by
  unfold row at h
  obtain ⟨k, hk, rfl⟩ := List.mem_map.mp h
  have := List.mem_range.mp hk
  omega
/-- how the boxes stand while the balls R are still to go -/
structure At (z : Nat) (all R bh ks : List Int) (L : Nat) (box : Int) : Prop where
  eq : bh ++ sp z L box R = step z all
  cnt : bh.length + L + R.length = z
  lo : ∀ x ∈ bh, x < box
  ge : ∀ x ∈ R, box ≤ x
  up : R.Pairwise (· < ·)
  mem : ∀ x, x ∈ ks ↔ x ∈ bh ∨ x ∈ emp L box R ∨ x ∈ R
theorem At.go {z : Nat} {all r bh ks ks' : List Int} {L : Nat} {box p : Int} (h : At z all (p :: r) bh ks L box)
    (hk : ∀ x, x ∈ ks' ↔ (x ∈ ks ∧ x ≠ p) ∨ x = gy (L - min L (p - box).toNat) (p + 1) r) :
    ∃ bh' L', At z all r bh' ks' L' (p + 1) := by
  obtain ⟨u1, u2⟩ := List.pairwise_cons.mp h.up
  have hb := h.ge p (List.mem_cons_self ..)
  have hc := h.cnt
  rw [List.length_cons] at hc
  have lz : L - min L (p - box).toNat < z := by omega
  have e := h.eq
  unfold sp at e
  rw [if_pos lz, ← List.append_assoc] at e
  refine ⟨bh ++ row box (min L (p - box).toNat), L - min L (p - box).toNat + 1, e, ?_, fun x hx => ?_, fun x hx => ?_, u2, fun x => ?_⟩
  · rw [List.length_append, show (row box (min L (p - box).toNat)).length = min L (p - box).toNat by unfold row; rw [List.length_map, List.length_range]]
    omega
  · rcases List.mem_append.mp hx with w | w
    · have := h.lo x w; omega
    · have := mem_row w; omega
  · have := u1 x hx; omega
  · rw [hk x, h.mem x, emp_cut L box hb, emp_gy]
    have np : ∀ w, w ∈ bh ++ row box (min L (p - box).toNat) → w ≠ p := fun w hw => by
      rcases List.mem_append.mp hw with v | v
      · have := h.lo w v; omega
      · have := mem_row v; omega
    have ne : ∀ w, w ∈ emp (L - min L (p - box).toNat) (p + 1) r → w ≠ p := fun w hw => by have := emp_lt _ _ _ _ hw; omega
    have nr : ∀ w, w ∈ r → w ≠ p := fun w hw => by have := u1 w hw; omega
    simp only [List.mem_append, List.mem_cons, List.mem_singleton, List.not_mem_nil, or_false]
    constructor
    · rintro (⟨h1 | (h1 | h1) | h1 | h1, h2⟩ | h1)
      · exact .inl (.inl h1)
      · exact .inl (.inr h1)
      · exact .inr (.inl (.inl h1))
      · exact absurd h1 h2
      · exact .inr (.inr h1)
      · exact .inr (.inl (.inr h1))
    · rintro ((h1 | h1) | (h1 | h1) | h1)
      · exact .inl ⟨.inl h1, np x (List.mem_append_left _ h1)⟩
      · exact .inl ⟨.inr (.inl (.inl h1)), np x (List.mem_append_right _ h1)⟩
      · exact .inl ⟨.inr (.inl (.inr h1)), ne x h1⟩
      · exact .inr h1
      · exact .inl ⟨.inr (.inr (.inr h1)), nr x h1⟩
/-- from the ball's next box on, all is taken up to the one it goes to, and that is free -/
theorem At.here {z : Nat} {all r bh ks : List Int} {L : Nat} {box p : Int} (h : At z all (p :: r) bh ks L box) (x : Int) (hx : p + 1 ≤ x) (hx2 : x ≤ gy (L - min L (p - box).toNat) (p + 1) r) :
    x ∈ ks ↔ x < gy (L - min L (p - box).toNat) (p + 1) r := by
  obtain ⟨u1, u2⟩ := List.pairwise_cons.mp h.up
  have hb := h.ge p (List.mem_cons_self ..)
  rw [h.mem x, emp_cut L box hb]
  simp only [List.mem_append, List.mem_cons]
  constructor
  · rintro (h1 | (h1 | h1) | h1 | h1)
    · have := h.lo x h1; omega
    · have := mem_row h1; omega
    · exact (emp_lt _ _ _ _ h1).2
    · omega
    · by_cases c : x = gy (L - min L (p - box).toNat) (p + 1) r
      · exact absurd (by rw [← c]; exact h1) (gy_not (L - min L (p - box).toNat) (p + 1) r u2)
      · omega
  · intro h1
    rcases gy_mid _ _ _ _ hx h1 with w | w
    · exact .inr (.inr (.inr w))
    · exact .inr (.inl (.inr w))
theorem At.done {z : Nat} {all bh ks : List Int} {L : Nat} {box : Int} (h : At z all [] bh ks L box) (x : Int) : x ∈ ks ↔ x ∈ step z all := by
  rw [h.mem x, ← h.eq, emp_nil]
  show x ∈ bh ∨ x ∈ row box L ∨ x ∈ [] ↔ x ∈ bh ++ row box L
  rw [List.mem_append]
  constructor
  · rintro (h1 | h1 | h1)
    · exact .inl h1
    · exact .inr h1
    · cases h1
  · rintro (h1 | h1)
    · exact .inl h1
    · exact .inr (.inl h1)
theorem At.start {all ks : List Int} (up : all.Pairwise (· < ·)) (hk : ∀ x, x ∈ ks ↔ x ∈ all) : At all.length all all [] ks 0 (all.headD 0) := by
  refine ⟨rfl, by simp, fun x hx => (by cases hx), fun x hx => ?_, up, fun x => ?_⟩
  · cases all with
    | nil => cases hx
    | cons p r =>
      rcases List.mem_cons.mp hx with rfl | hx
      · exact Int.le_refl _
      · exact Int.le_of_lt ((List.pairwise_cons.mp up).1 x hx)
  · rw [hk x]
    show x ∈ all ↔ x ∈ [] ∨ x ∈ [] ∨ x ∈ all
    simp
end BB
end
section
/-! Comprehensions of new tuples; a dict's int keys. -/
namespace L2
open PySem PySem.Spec PyProof.Rows
set_option maxHeartbeats 4000000
set_option Elab.async false
set_option linter.unusedVariables false
structure Nb3 (mg : Str → Option Value) : Prop extends Nb2 mg where
  dict : mg "dict" = none
  sorted : mg "sorted" = none
theorem comp_tups {J : It} {g : TG} {te : TE} {Q : VK} {D : Addr} {H1 : Hp} {σ0 : St} (n : Nat) (hn : n ≤ sizeLine) (f : Nat → List V) (Sg : St → Prop) (itm : Nat → Hp → V → Prop) (hD : H1 D = none) (s0 : Sg σ0)
    (items : ∀ i H, Same H1 H → (i < n → J.go i H ∧ ∀ x H2, J.yld i H x H2 → Same H H2 ∧ itm i H2 x) ∧ (n ≤ i → J.stop i H))
    (step : ∀ i x σ' H, i < n → Same H1 H → itm i H x → Sg σ' → ∀ R : St → V → Hp → Prop, (∀ σ3 p H5, Sg σ3 → Same H H5 → H5 p = some (.tup (f i)) → R σ3 (.ref p) H5) → g x σ' H fun σ3 H3 => te σ3 H3 (R σ3))
    (fin : ∀ H' ys, Same H1 H' → H' D = some (.lst ys) → ys.length = n → (∀ (j : Nat) (y : V), ys[j]? = some y → ∃ p, y = .ref p ∧ H' p = some (.tup (f j))) → Q (.ref D) H') :
    cmpW J g tYes te Q D σ0 H1 := by
  refine ⟨fun i m σ H => m = n - i ∧ i ≤ n ∧ Sg σ ∧ Same H1 H ∧ ∃ ys, H D = some (.lst ys) ∧ ys.length = i ∧ ∀ (j : Nat) (y : V), ys[j]? = some y → ∃ p, y = .ref p ∧ H p = some (.tup (f j)), ⟨n, by omega, Nat.zero_le _, s0, (Same.refl H1).upd_free hD _, [], upd_same, rfl, fun j y h => by cases h⟩, ?_⟩
  rintro i m σ H ⟨rfl, hi, hs, sm, ys, hd, hl, hy⟩
  by_cases hlt : i < n
  · obtain ⟨go, yl⟩ := (items i H sm).1 hlt
    refine .inr ⟨go, fun x H2 y => ?_⟩
    obtain ⟨s2, im⟩ := yl x H2 y
    have key := step i x σ H2 hlt (sm.trans s2) im hs (fun σ3 y H5 => ∃ ys, H5 D = some (.lst ys) ∧ ys.length < sizeLine ∧ ∃ m', m' < n - i ∧ (m' = n - (i + 1) ∧ i + 1 ≤ n ∧ Sg σ3 ∧ Same H1 (upd H5 D (.lst (ys ++ [y]))) ∧ ∃ zs, (upd H5 D (.lst (ys ++ [y]))) D = some (.lst zs) ∧ zs.length = i + 1 ∧ ∀ (j : Nat) (u : V), zs[j]? = some u → ∃ p, u = .ref p ∧ (upd H5 D (.lst (ys ++ [y]))) p = some (.tup (f j)))) fun σ3 p H5 g3 s5 ep => by
      refine ⟨ys, s5 _ _ (s2 _ _ hd), by omega, n - (i + 1), by omega, rfl, by omega, g3, (sm.trans (s2.trans s5)).upd_free hD _, ys ++ [.ref p], upd_same, by rw [List.length_append, List.length_singleton, hl], fun j u hu => ?_⟩
      have dd := s5 _ _ (s2 _ _ hd)
      by_cases c : j < ys.length
      · rw [List.getElem?_append_left c] at hu
        obtain ⟨p', e1, e2⟩ := hy j u hu
        have e3 := s5 _ _ (s2 _ _ e2)
        exact ⟨p', e1, by rw [upd_ne (ne_of e3 dd (by intro z; cases z))]; exact e3⟩
      · have ej : j = i := by
          have := (List.getElem?_eq_some_iff.mp hu).1
          rw [List.length_append, List.length_singleton] at this
          omega
        subst ej
        rw [List.getElem?_append_right (by omega), hl, Nat.sub_self] at hu
        have eu : u = .ref p := by simpa using hu.symm
        exact ⟨p, eu, by rw [upd_ne (ne_of ep dd (by intro z; cases z))]; exact ep⟩
    have e : (fun (σ3 : St) (H3 : Hp) => te σ3 H3 fun y H5 => ∃ ys, H5 D = some (.lst ys) ∧ ys.length < sizeLine ∧ ∃ m', m' < n - i ∧ (m' = n - (i + 1) ∧ i + 1 ≤ n ∧ Sg σ3 ∧ Same H1 (upd H5 D (.lst (ys ++ [y]))) ∧ ∃ zs, (upd H5 D (.lst (ys ++ [y]))) D = some (.lst zs) ∧ zs.length = i + 1 ∧ ∀ (j : Nat) (u : V), zs[j]? = some u → ∃ p, u = .ref p ∧ (upd H5 D (.lst (ys ++ [y]))) p = some (.tup (f j)))) =
        fun (σ3 : St) (H3 : Hp) => tYes σ3 H3 fun ok H4 => if ok = true then te σ3 H4 fun y H5 => ∃ ys, H5 D = some (.lst ys) ∧ ys.length < sizeLine ∧ ∃ m', m' < n - i ∧ (m' = n - (i + 1) ∧ i + 1 ≤ n ∧ Sg σ3 ∧ Same H1 (upd H5 D (.lst (ys ++ [y]))) ∧ ∃ zs, (upd H5 D (.lst (ys ++ [y]))) D = some (.lst zs) ∧ zs.length = i + 1 ∧ ∀ (j : Nat) (u : V), zs[j]? = some u → ∃ p, u = .ref p ∧ (upd H5 D (.lst (ys ++ [y]))) p = some (.tup (f j)))
          else ∃ m', m' < n - i ∧ (m' = n - (i + 1) ∧ i + 1 ≤ n ∧ Sg σ3 ∧ Same H1 H4 ∧ ∃ zs, H4 D = some (.lst zs) ∧ zs.length = i + 1 ∧ ∀ (j : Nat) (u : V), zs[j]? = some u → ∃ p, u = .ref p ∧ H4 p = some (.tup (f j))) := by
      funext σ3 H3
      unfold tYes
      dsimp only
      rw [if_pos rfl]
    rw [← e]
    exact key
  · have e : i = n := by omega
    subst e
    exact .inl ⟨(items i H sm).2 (Nat.le_refl _), fin H ys sm hd hl hy⟩
/-! a dict's int keys -/
end L2
end
section
/-! Lists of ints held side by side, as long as one another. -/
namespace L2
open PySem PySem.Spec PyProof.Rows
set_option maxHeartbeats 4000000
set_option Elab.async false
set_option linter.unusedVariables false
section
variable {X : Cx}
end
end L2
end
section
/-! How many balls a carrier takes. -/
namespace BB
def tkn (z : Nat) : Nat → Int → List Int → Nat
  | _, _, [] => 0
  | L, box, p :: r => if L - min L (p - box).toNat < z then tkn z (L - min L (p - box).toNat + 1) (p + 1) r + 1 else tkn z (L - min L (p - box).toNat) (p + 1) r
theorem tkn_gap {z L : Nat} {lo : Int} {R : List Int} (h : ∀ p ∈ R, lo + 1 ≤ p) : tkn z L lo R = tkn z (L - 1) (lo + 1) R := by
  cases R with
  | nil => rfl
  | cons p r =>
    have hp := h p (List.mem_cons_self ..)
    have e : L - min L (p - lo).toNat = L - 1 - min (L - 1) (p - (lo + 1)).toNat := by omega
    unfold tkn
    rw [e]
theorem tkn_free {z : Nat} {box box' : Int} : ∀ {r : List Int}, tkn z 0 box r = tkn z 0 box' r
  | [] => rfl
  | p :: r => by
    unfold tkn
    rw [Nat.zero_min, Nat.zero_min]
def taken (z : Nat) (r : List Int) : Nat := tkn z 0 (r.headD 0) r
/-- box by box: what lies there, what is carried, what is still to come -/
structure By (z : Nat) (all R fo : List Int) (L t : Nat) (x : Int) : Prop where
  eq : fo ++ sp z L x R = step z all
  tk : t + tkn z L x R = taken z all
  ge : L ≠ 0 → ∀ p ∈ R, x ≤ p
  up : R.Pairwise (· < ·)
  le : L ≤ z
theorem By.start (z : Nat) {all : List Int} (up : all.Pairwise (· < ·)) (x : Int) : By z all all [] 0 0 x :=
  ⟨by rw [List.nil_append]; exact sp_free, by rw [Nat.zero_add]; exact tkn_free, fun h => absurd rfl h, up, Nat.zero_le z⟩
theorem By.take {z : Nat} {all r fo : List Int} {L t : Nat} {x : Int} (h : By z all (x :: r) fo L t x) (hl : L ≠ z) : By z all r fo (L + 1) (t + 1) (x + 1) := by
  obtain ⟨u1, u2⟩ := List.pairwise_cons.mp h.up
  have lz : L < z := by have := h.le; omega
  have e := h.eq
  have k := h.tk
  unfold sp at e
  unfold tkn at k
  have em : min L (x - x).toNat = 0 := by rw [Int.sub_self]; exact Nat.min_zero L
  rw [em, row_zero, List.nil_append, Nat.sub_zero, if_pos lz] at e
  rw [em, Nat.sub_zero, if_pos lz] at k
  exact ⟨e, by omega, fun _ p hp => by have := u1 p hp; omega, u2, lz⟩
theorem By.lay {z : Nat} {all R fo : List Int} {L t : Nat} {x : Int} (h : By z all R fo L t x) (hl : 0 < L) (hx : x ∉ R) : By z all R (fo ++ [x]) (L - 1) t (x + 1) := by
  have hg : ∀ p ∈ R, x + 1 ≤ p := fun p hp => by
    have := h.ge (by omega) p hp
    have ne : p ≠ x := fun z => hx (by rw [← z]; exact hp)
    omega
  have e := h.eq
  have k := h.tk
  rw [sp_gap hg, if_pos hl] at e
  rw [tkn_gap hg] at k
  exact ⟨by rw [List.append_assoc]; exact e, k, fun _ => hg, h.up, by have := h.le; omega⟩
theorem By.done {z : Nat} {all fo : List Int} {t : Nat} {x : Int} (h : By z all [] fo 0 t x) : fo = step z all ∧ t = taken z all := by
  have e := h.eq
  have k := h.tk
  constructor
  · rw [← e]
    show fo = fo ++ row x 0
    rw [row_zero, List.append_nil]
  · rw [← k]
    rfl
end BB
end
section
/-! l != []. -/
namespace L2
open PySem PySem.Spec PyProof.Rows
set_option maxHeartbeats 4000000
set_option Elab.async false
set_option linter.unusedVariables false
section
variable {X : Cx}
def rNeNil (K : PySem.W.Frag) : R2 := fun x y H Q => ∃ (a b : Addr) (xs : List V), x = .ref a ∧ y = .ref b ∧ SqL K H a xs ∧ SqL K H b [] ∧ Q (.bl (!xs.isEmpty)) H
theorem op_neNil (hu : X.A.units < cLine) : OpR X (compareOp .NotEq) (rNeNil X.K) := by
  intro pins s σ H x y v u Q I rx ry h
  obtain ⟨a, b, xs, rfl, rfl, ha, hb, q⟩ := h
  cases rx
  cases ry
  obtain ⟨its, r1, p1, _⟩ := I.list ha
  obtain ⟨its2, r2, p2, _⟩ := I.list hb
  cases r2
  cases r1 with
  | nil =>
    refine of_rcne' (SeqAt.RcNeAt.lists (e := fun _ => true) p1.isList p2.isList rfl hu (fun j h1 => absurd h1 (by simp))) ?_
    exact ⟨.bl false, H, I, rfl, q⟩
  | cons h t =>
    refine of_rcne' (SeqAt.RcNeAt.lists_lengths p1.isList p2.isList (by simp) hu) ?_
    exact ⟨.bl true, H, I, rfl, q⟩
end
end L2
end
section
/-! f-strings of texts and small ints. -/
namespace L2
open PySem PySem.Spec PyProof.Rows
set_option maxHeartbeats 4000000
set_option Elab.async false
set_option linter.unusedVariables false
abbrev TJ := Str → St → Hp → VK → Prop
section
variable {X : Cx} {e : Expr} {es : List Expr} {te : TE} {t : TJ} {pos : Pos}
end
end L2
end
section
/-! An exception in flight, by the layer's own heap: what the library keeps of a base, kept of a base that is chosen for each step: the heap itself without the exception, its traceback and the frames. -/
namespace L2
open PySem PySem.Spec PyProof.Rows
set_option maxHeartbeats 4000000
set_option Elab.async false
set_option linter.unusedVariables false

/-! ### a heap without some of its objects -/
def lessOf : List Addr → Heap → Heap
  | [], h => h
  | a :: S, h => (lessOf S h).update a fun o => { o with data := .freed }
theorem less_out : ∀ {S : List Addr} {h : Heap} {b : Addr}, b ∉ S → (lessOf S h).get? b = h.get? b
  | [], _, _, _ => rfl
  | a :: S, h, b, hb => by
    show ((lessOf S h).update a _).get? b = _
    rw [Heap.get?_update_other _ _ fun z => hb (by rw [z]; exact List.mem_cons_self), less_out fun z => hb (List.mem_cons_of_mem _ z)]
/-! ### in flight -/
/-- the exception at e with its traceback at T -/
def Trc (h : Heap) (e T : Addr) (cls : Value) : Prop :=
  ∃ oe vs oT ts a0, h.get? e = some oe ∧ oe.cls = cls ∧ vs[0]? = some a0 ∧ oe.data = .fields vs ∧ vs[1]? = some (.ref T) ∧ T ≠ e ∧ h.get? T = some oT ∧ oT.data = .fields ts ∧ ts[3]? = some .none
/-- behind a call that raised: outer the callers, H and s ahead of the call -/
structure Fly (P : Program) (w : World) (outer : List Env) (H : Hp) (s : Shared) (H' : Hp) (e : Addr) (cls : Value) (s' : Shared) : Prop where
  os : s'.os = s.os
  bare : AllBare s'.gens
  un : Un (frs outer) [] H H' s.heap s'.heap
  hok : HOk P w H' s'.heap
  new : s.heap.get? e = none
  free : H' e = none
  tr : ∃ T, Trc s'.heap e T cls ∧ s.heap.get? T = none ∧ H' T = none
def CXF (P : Program) (w : World) : CXT := fun outer H s E v s' => ∃ e cls H', v = .ref e ∧ Fly P w outer H s H' e cls s' ∧ E cls (some e) H'

section
variable {P : Program} {w : World} {base : Heap} {env : Env} {outer : List Env} {L : Addr}
/-- what leaving a frame has done to a heap: all but S is as it was, of what has no fields at most the slots changed -/
structure Gone (S : List Addr) (h h' : Heap) : Prop where
  keep : ∀ b o, b ∉ S → h.get? b = some o → h'.get? b = some o
  slot : h.UpToSlots h'
theorem Gone.hok {S : List Addr} {H : Hp} {h h' : Heap} (g : Gone S h h') (hS : ∀ b ∈ S, H b = none) (x : HOk P w H h) : HOk P w H h' := fun b u e => by
  have ne : ∀ c u, H c = some u → c ∉ S := fun c u q z => by rw [hS c z] at q; cases q
  refine (x b u e).stay (fun c v hc q => g.keep c v ?_ q) (fun _ q => q) fun _ _ q => q
  rcases hc with rfl | hc
  · exact ne _ _ e
  · exact ne _ _ hc
end
/-! ### out of a def's frame -/
section
variable {X : Cx} {pins : List (Addr × Obj)} {σ : St} {H H' : Hp} {s s' : Shared} {e : Addr} {cls : Value} {Q : Unit → Shared → Prop} {E : Value → Shared → Prop}
/-- a def's body, no comprehension's block -/
structure Own (X : Cx) : Prop where
  stk : X.stack = X.env :: X.outer
  frm : X.env.frame = some X.env.locals
  ex : X.ex = []
end
end L2
end
section
/-! raise C(..), C an own class below ValueError; defs that may raise. -/
namespace L2
open PySem PySem.Spec PyProof.Rows
set_option maxHeartbeats 4000000
set_option Elab.async false
set_option linter.unusedVariables false

abbrev mroV : List Value := [.type "ValueError", .type "Exception", .type "BaseException", .type "object"]
/-- an own class below ValueError, behind the top: bm the classes above it -/
structure Exc (K : PySem.W.Frag) (C : Addr) (bm : List Value) : Prop where
  ob : ∃ (nm q : Str) (N : Addr) (bs : List Value) (hdct : Bool) (sn : List Str) (sub : List Value) (ab : Bool) (col : Option Bool) (dd : Option Addr) (k0 k1 k2 k3 k5 : Option Value),
    K.lookup C = some (excClassObj nm q C N bs bm hdct sn sub ab col dd k0 k1 k2 k3 k5 "ValueError.__new__") ∧ PySem.W.nsOkIn K N = true ∧ PySem.W.nsIn K N "__init__" = some none
  tl : PySem.W.tailIn K mroV bm = true
  bb : bm.contains (.type "BaseException") = true
  vb : bm.contains (.type "ValueError") = true

/-! ### contexts of defs that may raise -/
section
variable {P : Program} {w : World} {K : PySem.W.Frag} {mg : Str → Option Value} {base : Heap} {N : List Str} {qual : Str} {scope : Scope} {f : Addr} {cd : Value} {A : Around} {outer : List Env} {s : Shared} {H : Hp} {E : XK}
/-- what a def's body wants of an exception is that it leaves the frame -/
structure Lvs (X : Cx) (E : XK) : Prop where
  own : Own X
  xe : ∀ e s', wpAny (model X.prog X.w) X.A (leaving X.env e) (fun _ s'' => CXF X.prog X.w X.outer X.H₀ X.s₀ E e s'') (fun e' s'' => CXF X.prog X.w X.outer X.H₀ X.s₀ E e' s'') s' → X.xe e s'
end
section
variable {X : Cx} {E E' : XK}
end
end L2
end
section
/-! An exception that is caught in a def's frame. -/
namespace L2
open PySem PySem.Spec PyProof.Rows
set_option maxHeartbeats 4000000
set_option maxRecDepth 100000
set_option Elab.async false
set_option linter.unusedVariables false
section
variable {X : Cx} {pins : List (Addr × Obj)} {σ : St} {H H' : Hp} {s s' : Shared} {e T : Addr} {cls : Value} {S : List Addr} {h' : Heap}
variable {A : Around} {M : Model} {E : Value → Shared → Prop} {Q : Unit → Shared → Prop}
end
end L2
end
section
/-! Own classes held against an exception. -/
namespace L2
open PySem PySem.Spec PyProof.Rows
set_option maxHeartbeats 4000000
set_option maxRecDepth 100000
set_option Elab.async false
set_option linter.unusedVariables false
section
variable {M : Model} {A : Around} {E : Value → Shared → Prop} {h : Heap} {g : Array GenState} {d : Drawn} {t : Nat} {os : OsState} {e C C0 : Addr} {oe : Obj} {Q : Bool → Shared → Prop}
variable {nm q : Str} {N : Addr} {bs bm : List Value} {hdct : Bool} {sn : List Str} {sub : List Value} {ab : Bool} {col : Option Bool} {dd : Option Addr} {k0 k1 k2 k3 k5 : Option Value} {ni : String}
variable {nm' q' : Str} {N' : Addr} {bs' bm' : List Value} {hdct' : Bool} {sn' : List Str} {sub' : List Value} {ab' : Bool} {col' : Option Bool} {dd' : Option Addr} {k0' k1' k2' k3' k5' : Option Value} {ni' : String}
end
section
variable {prog : Program} {w : World} {A : Around} {E : Value → Shared → Prop} {K : PySem.W.Frag} {h : Heap} {g : Array GenState} {d : Drawn} {t : Nat} {os : OsState} {e C : Addr} {dc : Option Addr} {vs : Array Value} {sl : Array (Option Value)}
end
end L2
end
section
/-! isinstance of an exception; try .. except C as e. -/
namespace L2
open PySem PySem.Spec PyProof.Rows
set_option maxHeartbeats 4000000
set_option maxRecDepth 100000
set_option Elab.async false
set_option linter.unusedVariables false
/-- what the tables tell of an own class below ValueError -/
structure ExcF (K : PySem.W.Frag) (C : Addr) (bm : List Value) : Prop extends Exc K C bm where
  l1 : PySem.W.findIn K (.ref C) "__getattribute__" = some (some (.builtin "BaseException.__getattribute__"))
  l2 : PySem.W.findIn K (.ref C) "__class__" = some (some (.builtin "object.__class__"))
  l3 : PySem.W.findIn K (.ref C) "__getattr__" = some none
  l4 : PySem.W.subIn K (.ref C) (.type "BaseException") = some true
  l5 : PySem.W.subIn K (.ref C) (.type "object") = some true
section
variable {X : Cx}
end
end L2
end
section
/-! try: .. except C as e: .. -/
namespace L2
open PySem PySem.Spec PyProof.Rows
set_option maxHeartbeats 4000000
set_option maxRecDepth 100000
set_option Elab.async false
set_option linter.unusedVariables false
section
variable {X : Cx} {pins : List (Addr × Obj)} {σ : St} {H H' : Hp} {s s' : Shared} {e C : Addr} {cls : Value} {A : Around} {E : Value → Shared → Prop}
end
/-- a suite that may raise: how it ends, and how an exception leaves it -/
abbrev TB := St → Hp → (Hp → Prop) → XK → Prop
section
variable {X : Cx} {body suite : List Stmt} {b₀ : Stmt} {tb : TB} {ts : TS} {x n : Str} {np hp pos : Pos} {C0 : Addr} {bm0 : List Value} {k : Nat}
end
end L2
end
section
/-! Things that lie fixed; a thing that runs when called; `call()` as the body of a try. -/
namespace L2
open PySem PySem.Spec PyProof.Rows
set_option maxHeartbeats 4000000
set_option maxRecDepth 100000
set_option Elab.async false
set_option linter.unusedVariables false
/-- the object o at a, for good -/
def Fz (a : Addr) (o : Obj) : HO := .frz o (.ext fun h => h.get? a = some o)
end L2
end
section
/-! A lambda without parameters runs. -/
namespace L2
open PySem PySem.Spec PyProof.Rows
set_option maxHeartbeats 4000000
set_option maxRecDepth 100000
set_option Elab.async false
set_option linter.unusedVariables false
/-- the cells that it holds, over base: the names N with the values σ -/
structure Cap (base : Heap) (scope : Scope) (cl : List (Str × Addr)) (N : List Str) (σ : St) : Prop where
  inj : ∀ x y c, cl.lookup x = some c → cl.lookup y = some c → x = y
  has : ∀ x, scope.names.lookup x = some .free → ∃ c, cl.lookup x = some c
  cell : ∀ x c, cl.lookup x = some c → ∃ v, base.IsCell c v
  val : ∀ (i : Nat) (x : Str) (v : V), N[i]? = some x → σ[i]? = some (some v) → scope.names.lookup x = some .free ∧ ∃ u c, RelV v u ∧ cl.lookup x = some c ∧ base.IsCell c (some u)
  len : σ.length = N.length
structure LamS (scope : Scope) : Prop where
  kind : scope.kind = .function
  co : scope.isCoroutine = false
  gen : scope.isGenerator = false
  nocell : ∀ y ∈ scope.names, y.2 ≠ .cell
section
variable {P : Program} {w : World} {K : PySem.W.Frag} {mg : Str → Option Value} {base : Heap} {N : List Str} {qual : Str} {scope : Scope} {cl : List (Str × Addr)} {f : Addr} {cd : Value} {A : Around} {outer : List Env} {s : Shared} {H : Hp} {E : XK} {σ : St}
end
end L2
end
section
/-! A lambda is made and handed on. -/
namespace L2
open PySem PySem.Spec PyProof.Rows
set_option maxHeartbeats 4000000
set_option maxRecDepth 100000
set_option Elab.async false
set_option linter.unusedVariables false
/-- the table at T: each code object in it is known, by the name q -/
def Tab (q : Str) (H : Hp) (T : Addr) : Prop := ∃ l : List (Pos × Addr), H T = some (.tbl (triples l).toArray) ∧ ∀ x ∈ l, ∃ oc vs t, H x.2 = some (Fz x.2 oc) ∧ oc.data = .fields vs ∧ vs[1]? = some (.str q t)
theorem Tab.same {q : Str} {H H' : Hp} {T : Addr} (x : Tab q H T) (s : Same H H') : Tab q H' T :=
  let ⟨l, e, h⟩ := x
  ⟨l, s _ _ e, fun y hy => let ⟨oc, vs, t, a, b⟩ := h y hy; ⟨oc, vs, t, s _ _ a, b⟩⟩
theorem Tab.empty {q : Str} {H : Hp} {T : Addr} (e : H T = some (.tbl #[])) : Tab q H T := ⟨[], e, fun _ h => nomatch h⟩
abbrev lamQ (X : Cx) : Str := X.env.qual ++ "<lambda>"
structure LamAt (X : Cx) (T : Addr) (params : Arguments) (body : Expr) (scope : Scope) (H : Hp) (f : Addr) (H' : Hp) : Prop where
  new : H f = none
  grow : ∀ b u, b ≠ T → H b = some u → H' b = some u
  tab : Tab (lamQ X) H' T
  ob : ∃ cl pm c' ctv oc vs t, H' f = some (Fz f (PySem.W.kla_obj "<lambda>" (lamQ X) params body scope cl pm c' ctv)) ∧ H' c' = some (Fz c' oc) ∧ oc.data = .fields vs ∧ vs[1]? = some (.str (lamQ X) t) ∧
    (∀ x c, cl.lookup x = some c → X.env.cells.lookup x = some c) ∧ ∀ x, (x, NameKind.free) ∈ scope.names → ∃ c, cl.lookup x = some c
section
variable {X : Cx} {T c : Addr} {params : Arguments} {body : Expr} {scope : Scope} {pos : Pos}
end
end L2
end
section
/-! f(lambda: ..), f one that calls what it is given: over a greater base, in which the cells lie. -/
namespace L2
open PySem PySem.Spec PyProof.Rows
set_option maxHeartbeats 4000000
set_option maxRecDepth 100000
set_option Elab.async false
set_option linter.unusedVariables false
open Classical in
noncomputable def outOf (base : Heap) (cl : List (Str × Addr)) (h : Heap) : List Addr := (List.range h.objs.size).filter fun a => decide (base.get? a = none ∧ ∀ x, cl.lookup x ≠ some a)
noncomputable def baseOf (base : Heap) (cl : List (Str × Addr)) (h : Heap) : Heap := lessOf (outOf base cl h) h
section
variable {base h : Heap} {cl : List (Str × Addr)} {b : Addr} {o : Obj}
theorem base_in (e : h.get? b = some o) (hi : (∃ u, base.get? b = some u) ∨ ∃ x, cl.lookup x = some b) : (baseOf base cl h).get? b = some o := by
  unfold baseOf
  rw [less_out]
  · exact e
  · intro z
    have z := (List.mem_filter.mp z).2
    have z : base.get? b = none ∧ ∀ x, cl.lookup x ≠ some b := by simpa using z
    rcases hi with ⟨u, q⟩ | ⟨x, q⟩
    · rw [z.1] at q; cases q
    · exact z.2 x q
end
section
variable {X : Cx} {pins : List (Addr × Obj)} {σ : St} {H : Hp} {s : Shared} {cl : List (Str × Addr)} {N : List Str} {js : List Nat} {scope : Scope}
theorem Inv.cap (I : Inv X pins σ H s) (B : Blk X.env.scope X.N N 0 js scope) (c1 : ∀ x c, cl.lookup x = some c → X.env.cells.lookup x = some c) (c2 : ∀ x, (x, NameKind.free) ∈ scope.names → ∃ c, cl.lookup x = some c) :
    Cap (baseOf X.base cl s.heap) scope cl N (inner 0 js σ) := by
  have cell : ∀ {x : Str} {c : Addr} {v : Option Value}, cl.lookup x = some c → s.heap.IsCell c v → (baseOf X.base cl s.heap).IsCell c v := fun {x c v} e ⟨o, ho, hd⟩ => ⟨o, base_in ho (.inr ⟨x, e⟩), hd⟩
  refine ⟨fun x y c a b => I.ok.inj x y c (c1 x c a) (c1 y c b), fun x hx => c2 x (PySem.mem_of_lookup hx), fun x c e => ?_, fun i x v h1 h2 => ?_, ?_⟩
  · obtain ⟨v, hv⟩ := I.cell x c (c1 x c e)
    exact ⟨v, cell e hv⟩
  · obtain ⟨k, j, rfl, hk, hv⟩ := inner_get h2
    have h1' : (N.drop 0)[k]? = some x := by rw [List.getElem?_drop]; exact h1
    have hxm : x ∈ N.drop 0 := List.mem_of_getElem? h1'
    have hfree : scope.names.lookup x = some .free := B.fr x hxm
    have hj : X.N[j]? = some x := by
      rw [B.out, List.getElem?_map, hk] at h1'
      have hjl : j < X.N.length := B.js j (List.mem_of_getElem? hk)
      rw [List.getElem?_eq_getElem hjl]
      have e : X.N.getD j "" = x := by simpa using h1'
      rw [← e]
      simp [List.getD_eq_getElem?_getD, List.getElem?_eq_getElem hjl]
    have hcap := B.cap _ (PySem.mem_of_lookup hfree) rfl
    obtain ⟨m, hn, hl⟩ := I.loc
    obtain ⟨u, ru, lk⟩ := hl j x v hj hv (hcap.elim (fun z => .inr (.inl z)) fun z => .inr (.inr z))
    refine ⟨hfree, ?_⟩
    rcases lk with ⟨z, _⟩ | ⟨_, c, e, q⟩
    · exact absurd (show X.env.scope.names.lookup x = some .local from z) (by rcases hcap with y | y <;> (rw [y]; decide))
    · obtain ⟨c', e'⟩ := c2 x (PySem.mem_of_lookup hfree)
      have ec := c1 x c' e'
      rw [e] at ec
      cases ec
      exact ⟨u, c, ru, e', cell e' q⟩
  · unfold inner
    rw [List.length_append, List.length_replicate, List.length_map, B.len]
end
section
variable {X : Cx} {T c r : Addr} {params : Arguments} {body : Expr} {scope : Scope} {x : Str} {p lpos pos : Pos} {k kr : Nat} {fd : FuncData} {px : Str} {R : VK → VK} {Ec : VK → XK} {te : XK → TE} {N : List Str} {js : List Nat} {qn : Str}
end
end L2
end
section
/-! sum of a list of ints; l.index(True) of a list of truths. -/
namespace L2
open PySem PySem.Spec PyProof.Rows
set_option maxHeartbeats 4000000
set_option maxRecDepth 100000
set_option Elab.async false
set_option linter.unusedVariables false
section
variable {X : Cx}
end
end L2
end
section
/-! Defs that raise, by name; the law's call where the law makes lambdas. -/
namespace L2
open PySem PySem.Spec PyProof.Rows
set_option maxHeartbeats 4000000
set_option maxRecDepth 100000
set_option Elab.async false
set_option linter.unusedVariables false
section
variable {X : Cx} {k k' : Nat} {x : Str} {ps : List Str} {sp : Sp} {e : Expr} {es : List Expr} {t : TA} {p pos : Pos} {E : XK}
end
section
variable {P : Program} {w : World} {K : PySem.W.Frag} {mg : Str → Option Value} {base : Heap}
end
end L2
end
section
/-! f(lambda: ..) with the scopes by name. -/
namespace L2
open PySem PySem.Spec PyProof.Rows
set_option maxHeartbeats 4000000
set_option maxRecDepth 100000
set_option Elab.async false
set_option linter.unusedVariables false
section
variable {X : Cx} {T c : Addr} {params : Arguments} {body : Expr} {scope sc : Scope} {x : Str} {p lpos pos : Pos} {k kr k' : Nat} {px : Str} {R : VK → VK} {Ec : VK → XK} {te : XK → TE} {N N0 : List Str} {js : List Nat}
end
end L2
end
section
/-! sum of a tuple of ints. -/
namespace L2
open PySem PySem.Spec PyProof.Rows
set_option maxHeartbeats 4000000
set_option maxRecDepth 100000
set_option Elab.async false
set_option linter.unusedVariables false
section
variable {X : Cx}
end
end L2
end
section
/-! A loop over any iterator whose items are known. -/
namespace L2
open PySem PySem.Spec PyProof.Rows
set_option maxHeartbeats 4000000
set_option Elab.async false
set_option linter.unusedVariables false
theorem for_items {J : It} {g : TG} {tb : TS} {D : Ends} {σ : St} {H : Hp} (n : Nat) (itm : Nat → Hp → V → Prop) (Pv : Nat → St → Hp → Prop) (h0 : Pv 0 σ H)
    (items : ∀ i σ H, i ≤ n → Pv i σ H → (i < n → J.go i H ∧ ∀ x H2, J.yld i H x H2 → Same H H2 ∧ itm i H2 x) ∧ (n ≤ i → J.stop i H))
    (hs : ∀ i x σ H H2, i < n → Pv i σ H → Same H H2 → itm i H2 x → g x σ H2 fun σ2 H3 => tb { D with nx := Pv (i + 1), ct := Pv (i + 1), bk := D.nx } σ2 H3) (hd : ∀ σ H, Pv n σ H → D.nx σ H) :
    ∃ W : Nat → Nat → St → Hp → Prop, (∃ m, W 0 m σ H) ∧ ∀ i m σ H, W i m σ H →
      (J.stop i H ∧ D.nx σ H) ∨ (J.go i H ∧ ∃ N : St → Hp → Prop, (∀ σ' H', N σ' H' → ∃ m', m' < m ∧ W (i + 1) m' σ' H') ∧ ∀ x H', J.yld i H x H' → g x σ H' fun σ2 H2 => tb { D with nx := N, ct := N, bk := D.nx } σ2 H2) := by
  refine ⟨fun i m σ H => m + i = n ∧ Pv i σ H, ⟨n, rfl, h0⟩, fun i m σ H hw => ?_⟩
  obtain ⟨e, p⟩ := hw
  have it := items i σ H (by omega) p
  cases m with
  | zero =>
    obtain rfl : i = n := by omega
    exact .inl ⟨it.2 (Nat.le_refl _), hd σ H p⟩
  | succ m =>
    obtain ⟨go, yl⟩ := it.1 (by omega)
    refine .inr ⟨go, Pv (i + 1), fun σ' H' q => ⟨m, Nat.lt_succ_self _, by omega, q⟩, fun x H' y => ?_⟩
    obtain ⟨sm, im⟩ := yl x H' y
    exact hs i x σ H H' (by omega) p sm im
end L2
end
section
/-! The tree of questions of a sort, asked of keys that are all unlike, sorts. -/
namespace L2
open PySem PySem.W PyProof.Rows
set_option maxHeartbeats 4000000
set_option Elab.async false
set_option linter.unusedVariables false
/-- the places, in some order -/
structure Pm (n : Nat) (p : Array Nat) : Prop where
  perm : p.toList.Perm (List.range n)
section
variable {n : Nat} {p : Array Nat}
theorem Pm.size (h : Pm n p) : p.size = n := by
  have := h.perm.length_eq
  rw [List.length_range, Array.length_toList] at this
  exact this
theorem Pm.lt (h : Pm n p) (n0 : 0 < n) (j : Nat) : p.getD j 0 < n := by
  by_cases c : j < p.size
  · have e : p.getD j 0 = p[j] := by simp [Array.getD, c]
    rw [e]
    exact List.mem_range.mp (h.perm.mem_iff.mp (by simp))
  · have e : p.getD j 0 = 0 := by simp [Array.getD, c]
    rw [e]
    exact n0
theorem Pm.inj (h : Pm n p) {i j : Nat} (hi : i < n) (hj : j < n) (e : p.getD i 0 = p.getD j 0) : i = j := by
  have hi' : i < p.size := by rw [h.size]; exact hi
  have hj' : j < p.size := by rw [h.size]; exact hj
  have e1 : p.getD i 0 = p[i] := by simp [Array.getD, hi']
  have e2 : p.getD j 0 = p[j] := by simp [Array.getD, hj']
  have nd : p.toList.Nodup := h.perm.nodup_iff.mpr List.nodup_range
  rw [e1, e2] at e
  have pw := List.pairwise_iff_getElem.mp nd
  rcases Nat.lt_trichotomy i j with c | c | c
  · exact absurd (by rw [Array.getElem_toList, Array.getElem_toList]; exact e) (pw i j _ _ c)
  · exact c
  · exact absurd (by rw [Array.getElem_toList, Array.getElem_toList]; exact e.symm) (pw j i _ _ c)
theorem Pm.of (h : Pm n p) {q : Array Nat} (hq : q.Perm p) : Pm n q := ⟨(Array.perm_iff_toList_perm.mp hq).trans h.perm⟩
end
/-- the first k rise -/
def Up (key : Nat → Int) (p : Array Nat) (k : Nat) : Prop := ∀ j, 1 ≤ j → j < k → key (p.getD (j - 1) 0) < key (p.getD j 0)
theorem Up.lt {key : Nat → Int} {p : Array Nat} {k : Nat} (h : Up key p k) : ∀ (d i : Nat), i + d + 1 < k → key (p.getD i 0) < key (p.getD (i + d + 1) 0)
  | 0, i, hi => h (i + 1) (by omega) hi
  | d + 1, i, hi => Int.lt_trans (Up.lt h d i (by omega)) (h (i + (d + 1) + 1) (by omega) hi)
section
variable {cmp : Nat → Nat → (Bool → Shared → Prop) → Shared → Prop} {key : Nat → Int} {J : Shared → Prop} {n : Nat} {s : Shared}
end
end L2
end
section
/-! Tuples of pairs held side by side. -/
namespace L2
open PySem PySem.Spec PyProof.Rows
set_option maxHeartbeats 4000000
set_option maxRecDepth 100000
set_option Elab.async false
set_option linter.unusedVariables false
section
variable {X : Cx}
end
end L2
end
section
/-! sorted(l) of a list of pairs of ints whose first ones are all unlike. -/
namespace L2
open PySem PySem.Spec PySem.W PyProof.Rows
set_option maxHeartbeats 4000000
set_option maxRecDepth 100000
set_option Elab.async false
set_option linter.unusedVariables false
section
variable {prog : Program} {w : World} {A : Around} {E : Value → Shared → Prop} {s : Shared}
end
end L2
namespace L2
open PySem PySem.Spec PySem.W PyProof.Rows
set_option maxHeartbeats 4000000
set_option maxRecDepth 100000
end L2
end
section
/-! Lists of pairs held side by side. -/
namespace L2
open PySem PySem.Spec PyProof.Rows
set_option maxHeartbeats 4000000
set_option maxRecDepth 100000
set_option Elab.async false
set_option linter.unusedVariables false
section
variable {X : Cx}
end
end L2
end
section
/-! l == []. -/
namespace L2
open PySem PySem.Spec PyProof.Rows
set_option maxHeartbeats 4000000
set_option Elab.async false
set_option linter.unusedVariables false
section
variable {X : Cx}
def rEqNil (K : PySem.W.Frag) : R2 := fun x y H Q => ∃ (a b : Addr) (xs : List V), x = .ref a ∧ y = .ref b ∧ SqL K H a xs ∧ SqL K H b [] ∧ Q (.bl xs.isEmpty) H
theorem op_eqNil (hu : X.A.units < cLine) : OpR X (compareOp .Eq) (rEqNil X.K) := by
  intro pins s σ H x y v u Q I rx ry h
  obtain ⟨a, b, xs, rfl, rfl, ha, hb, q⟩ := h
  cases rx
  cases ry
  obtain ⟨its, r1, p1, _⟩ := I.list ha
  obtain ⟨its2, r2, p2, _⟩ := I.list hb
  cases r2
  cases r1 with
  | nil => exact SeqAt.eq_listAt (e := fun _ => true) p1.isList p2.isList rfl hu (fun j h1 => absurd h1 (by simp)) ⟨.bl true, H, I, rfl, q⟩
  | cons h t => exact SeqAt.eq_list_lengthsAt p1.isList p2.isList (by simp) hu ⟨.bl false, H, I, rfl, q⟩
end
end L2
end
section
/-! A comprehension within a comprehension's element: the outer target is a cell. -/
namespace L2
open PySem PySem.Spec PyProof.Rows
set_option maxHeartbeats 4000000
set_option maxRecDepth 100000
set_option Elab.async false
set_option linter.unusedVariables false
abbrev cell0 : Obj := { cls := .type "cell", data := .cell none }
structure Blk1 (t : Str) (sc : Scope) (N0 : List Str) (N : List Str) (nt : Nat) (js : List Nat) (scope : Scope) : Prop where
  kind : scope.kind = .function
  loc : ∀ y ∈ scope.names, y.2 = .local → scope.names.lookup y.1 = some .local
  one : ∀ n cl, cellsFrom n scope.names cl = (t, n) :: cl
  lay : ∀ h, pushCells h scope.names = h.push cell0
  only : ∀ y ∈ scope.names, y.2 = .cell → y.1 = t
  cap : ∀ y ∈ scope.names, y.2 = .free → sc.names.lookup y.1 = some .cell ∨ sc.names.lookup y.1 = some .free
  nf : ∀ y ∈ scope.names, y.2 = .free → y.1 ≠ t
  len : N.length = nt + js.length
  out : N.drop nt = js.map fun j => N0.getD j ""
  js : ∀ j ∈ js, j < N0.length
  fr : ∀ x ∈ N.drop nt, scope.names.lookup x = some .free
  nd : N.Nodup
section
variable {M : Model} {A : Around} {E : Value → Shared → Prop} {s : Shared}
end

section
variable {X : Cx} {pins : List (Addr × Obj)} {σ : St} {H : Hp} {s : Shared} {t : Str} {N : List Str} {nt : Nat} {js : List Nat} {scope : Scope} {cl : List (Str × Addr)} {fp : List Addr}
end
section
variable {X : Cx} {elt iter : Expr} {ifs : List Expr} {scope : Scope} {pos : Pos} {N : List Str} {js : List Nat} {sc : Scope} {N0 : List Str} {wi : TI} {tt : TT} {te : TE} {x : Str} {px : Pos}
end
/-! ### rules with the module's part written out, for use within blocks -/
section
variable {X : Cx} {tg : Expr}
theorem op_notInK (K : PySem.W.Frag) (h : X.K = K) : OpR X (compareOp .NotIn) (rIn K true) := by subst h; exact op_notIn_seq
end
end L2
end
section
/-! A list's method, called within a block. -/
namespace L2
open PySem PySem.Spec PyProof.Rows
set_option maxHeartbeats 4000000
set_option Elab.async false
set_option linter.unusedVariables false
section
variable {X : Cx} {o e : Expr} {es : List Expr} {to : TE} {t : TA} {name : Str} {apos cpos : Pos} {T id : String} {r : V → List V → Hp → VK → Prop}
end
end L2
end
section
/-! A comprehension by an invariant, with a test. -/
namespace L2
open PySem PySem.Spec PyProof.Rows
set_option maxHeartbeats 4000000
set_option Elab.async false
set_option linter.unusedVariables false
section
variable {X : Cx} {elt iter : Expr} {ifs : List Expr} {scope : Scope} {px py tp pos pos' spos : Pos} {k ii : Nat} {x y nm : Str} {N N0 : List Str} {js : List Nat} {sc : Scope} {wi : TI} {tt : TT} {te : TE}
/-- name = [.. for x, y in ..] -/
theorem ps_comp2 (hNd : X.N.Nodup) (hii : X.N[ii]? = some nm) (hloc : Loc X.env.scope nm) (hc : X.calm = true) (hsc : X.env.scope = sc) (hN : X.N = N0) (B : Blk sc N0 (x :: y :: N) 2 js scope) (hx : scope.names.lookup x = some .local) (hy : scope.names.lookup y = some .local) (hi : PI X (.Tuple [.Name x px, .Name y py] k tp) iter wi)
    (ht : ∀ cl C s H fp, PTs (blk X (x :: y :: N) scope cl C s H fp) ifs tt) (he : ∀ cl C s H fp, PE (blk X (x :: y :: N) scope cl C s H fp) elt te)
    (hsw : swapsWith (.ListComp elt [⟨.Tuple [.Name x px, .Name y py] k tp, iter, ifs, 0⟩] scope pos) (some (.Name nm pos')) spos.line X.env = pure true := by rfl)
    (hf : X.fn nm = true ∨ X.env.scope.names.lookup nm = some .local := by first | exact .inl rfl | exact .inr rfl | assumption)
    (hs : ∀ x, foldedSetIterable iter X.env x = pure x := by intro _; rfl) : PS X (.Assign [.Name nm pos'] (.ListComp elt [⟨.Tuple [.Name x px, .Name y py] k tp, iter, ifs, 0⟩] scope pos) spos) (tSetC ii (tComp 2 js wi (gTup X.K 2 (gCons (gName 0) (gCons (gName 1) gNil))) tt te)) :=
  ps_comp hNd hii hloc hc hsc hN B hi (fun cl C s H fp => pg_tup (X := blk X (x :: y :: N) scope cl C s H fp) hc (pgs_cons (pg_name (i := 0) B.nd rfl (.inl (blk_loc hx)) (.inr (blk_loc hx))) (pgs_cons (pg_name (i := 1) B.nd rfl (.inl (blk_loc hy)) (.inr (blk_loc hy))) pgs_nil))) ht he hsw hf hs
end
end L2
end
section
/-! max of a list of ints. -/
namespace L2
open PySem PySem.Spec PyProof.Rows
set_option maxHeartbeats 4000000
set_option maxRecDepth 100000
set_option Elab.async false
set_option linter.unusedVariables false
section
variable {X : Cx}
theorem ints_of : ∀ (l : List Int) (vs : List Value), Vals (l.map V.int) vs → ∃ ps : List (Int × Tok), vs = ps.map (fun p => Value.int p.1 p.2) ∧ ps.map (·.1) = l
  | [], vs, v => by cases v; exact ⟨[], rfl, rfl⟩
  | n :: l, vs, v => by
    cases v with
    | cons a b =>
      obtain ⟨t, rfl⟩ := a
      obtain ⟨ps, rfl, e⟩ := ints_of l _ b
      exact ⟨(n, t) :: ps, rfl, by rw [List.map_cons, e]⟩
end
end L2
end
section
/-! min of a list of ints. -/
namespace L2
open PySem PySem.Spec PyProof.Rows
set_option maxHeartbeats 4000000
set_option maxRecDepth 100000
set_option Elab.async false
set_option linter.unusedVariables false
section
variable {X : Cx}
def rMinL (K : PySem.W.Frag) : List V → Hp → VK → Prop := fun xs H Q => ∃ (p : Addr) (ns : List Int), xs = [.ref p] ∧ SqL K H p (ns.map V.int) ∧ ns ≠ [] ∧ ∀ m, m ∈ ns → (∀ x ∈ ns, m ≤ x) → Q (.int m) H
theorem call_minL (hc : X.calm = true) : CallR X (.builtin "min") (rMinL X.K) := by
  intro pins s σ H xs us Q I r h
  obtain ⟨p, ns, rfl, hq, ne, q⟩ := h
  obtain ⟨u, rfl, rx⟩ := vals1 r
  cases (show u = Value.ref p from rx)
  obtain ⟨its, r', pl, hz⟩ := I.list hq
  obtain ⟨ps, e1, e2⟩ := ints_of ns its r'
  have ln : ps.length = ns.length := by rw [← e2, List.length_map]
  have n0 : 0 < ns.length := List.length_pos_iff.mpr ne
  have hl : s.heap.IsList p (intItems ps.toArray) := by
    have z := pl.isList
    rw [e1] at z
    have e3 : (ps.map fun p => Value.int p.1 p.2).toArray = intItems ps.toArray := by unfold intItems; simp
    rw [e3] at z
    exact z
  have na : ∀ i, i < ns.length → numAt ps.toArray i = ns.getD i 0 ∧ ns.getD i 0 ∈ ns := fun i hi => by
    have hi' : i < ps.length := by omega
    have e4 : ns[i]? = some ps[i].1 := by rw [← e2, List.getElem?_map, List.getElem?_eq_getElem hi']; rfl
    unfold numAt
    rw [List.getD_eq_getElem?_getD, e4]
    refine ⟨?_, List.mem_of_getElem? e4⟩
    have : ps.toArray[i]? = some ps[i] := by simp [hi']
    rw [this]
    rfl
  obtain ⟨b1, b2⟩ := argBest_lt (numAt ps.toArray) (ps.toArray.size - 1)
  refine min_intList (I.ok.hd hc) hl (by simp; omega) fun v h' tk hv hk => ?_
  obtain ⟨t, rfl⟩ := intItems_at hv
  have bl : argBest (fun i j => decide (numAt ps.toArray i < numAt ps.toArray j)) (ps.toArray.size - 1) < ns.length := by
    have : ps.toArray.size = ns.length := by simp [ln]
    omega
  obtain ⟨c1, c2⟩ := na _ bl
  refine ⟨.int (numAt ps.toArray (argBest (fun i j => decide (numAt ps.toArray i < numAt ps.toArray j)) (ps.toArray.size - 1))), H, I.kept hk, ⟨_, rfl⟩, q _ (by rw [c1]; exact c2) fun x hx => ?_⟩
  obtain ⟨j, hj, rfl⟩ := List.mem_iff_getElem.mp hx
  have := b2 j (by have : ps.toArray.size = ns.length := by simp [ln]
                   omega)
  rw [(na j hj).1, List.getD_eq_getElem?_getD, List.getElem?_eq_getElem hj] at this
  exact this
end
end L2
end
section
/-! A list comprehension of two clauses. -/
namespace L2
open PySem PySem.Spec PyProof.Rows
set_option maxHeartbeats 4000000
set_option Elab.async false
set_option linter.unusedVariables false
section
variable {elt tg iter tg' iter' : Expr} {g0 : Comprehension} {scope : Scope} {pos : Pos} {it acc : Value} {env : Env}
end
section
variable {prog : Program} {w : World} {A : Around} {s : Shared} {R : Result → Shared → Prop} {elt tg iter tg' iter' : Expr} {g0 : Comprehension} {scope : Scope} {pos : Pos} {it acc : Value} {env : Env}
end
end L2
end
section
/-! Readings of a comprehension of two clauses. -/
namespace L2
open PySem PySem.Spec PyProof.Rows
set_option maxHeartbeats 4000000
set_option Elab.async false
set_option linter.unusedVariables false
/-- all stays but at a -/
def But (a : Addr) (H H' : Hp) : Prop := ∀ c o, c ≠ a → H c = some o → H' c = some o
theorem But.refl (a : Addr) (H : Hp) : But a H H := fun _ _ _ h => h
theorem But.trans {a : Addr} {H1 H2 H3 : Hp} (x : But a H1 H2) (y : But a H2 H3) : But a H1 H3 := fun c o n h => y c o n (x c o n h)
theorem But.of {a : Addr} {H H' : Hp} (s : Same H H') : But a H H' := fun c o _ h => s c o h
theorem But.upd {a : Addr} {H : Hp} (o : HO) : But a H (upd H a o) := fun c u n h => by rw [upd_ne n]; exact h
section
variable {X : Cx} {elt iter iter' : Expr} {scope : Scope} {pos : Pos} {N : List Str} {js : List Nat} {sc : Scope} {N0 : List Str} {wi wi' : TI} {te : TE} {x y z : Str} {px py pz tp : Pos} {k : Nat}
end
end L2
end
section
/-! A statement that raises nothing, where something may be raised. -/
namespace L2
open PySem PySem.Spec PyProof.Rows
set_option maxHeartbeats 4000000
set_option Elab.async false
end L2
end
section
/-! A place in the middle: what holds behind a statement is said once. -/
namespace L2
open PySem PySem.Spec PyProof.Rows
set_option maxHeartbeats 4000000
set_option Elab.async false
set_option linter.unusedVariables false
def tMid (t : TS) : TS := fun D σ H => ∃ mid : St → Hp → Prop, t { D with nx := mid } σ H ∧ ∀ σ' H', mid σ' H' → D.nx σ' H'
theorem ps_mid {X : Cx} {st : Stmt} {t : TS} (h : PS X st t) : PS X st (tMid t) := fun pins s σ H D I ⟨mid, h1, h2⟩ =>
  wpAny_mono (h pins s σ H _ I h1) (fun f s' q => by
    cases f with
    | next => obtain ⟨σ', H', I', q⟩ := q; exact ⟨σ', H', I', h2 _ _ q⟩
    | brk => exact q
    | cont => exact q
    | ret v => exact q) fun _ _ z => z
end L2
end
section
/-! enumerate(l) of a list, walked with a pair as target. -/
namespace L2
open PySem PySem.Spec PyProof.Rows
set_option maxHeartbeats 4000000
set_option maxRecDepth 100000
set_option Elab.async false
set_option linter.unusedVariables false
/-- the items of a list with their places -/
def Ite (K : PySem.W.Frag) (l : Addr) : It where
  go := fun i H => ∃ xs x, SqL K H l xs ∧ xs[i]? = some x
  yld := fun i H v H' => ∃ p x, v = .ref p ∧ H p = none ∧ H' = upd H p (.tup [.int i, x]) ∧ ∀ xs, SqL K H l xs → xs[i]? = some x
  stop := fun i H => ∃ xs, SqL K H l xs ∧ xs[i]? = none
theorem turn_enum {P : Program} {w : World} {K : PySem.W.Frag} {es : List Expr} {k0 : Nat} {pos : Pos} {e i l : Addr} (a1 : e ≠ i) (c1 : l ∉ [e, i]) :
    Turn P w K (.Tuple es k0 pos) (Ite K l) [e, i] e (fun k h => (∃ old, IsEnum h e i (k : Int) old) ∧ h.IsListIter i l k) where
  mem := by simp
  obj := fun k h ⟨⟨old, he⟩, ⟨o, e1, _, d1⟩⟩ c hc => by
    simp only [List.mem_cons, List.not_mem_nil, or_false] at hc
    rcases hc with rfl | rfl
    · exact ⟨_, he, fun v q => by cases q⟩
    · exact ⟨_, e1, fun v q => by rw [d1] at q; cases q⟩
  keep := fun k h h' ⟨⟨old, he⟩, h3⟩ kp => ⟨⟨old, kp e (by simp) _ he⟩, h3.at fun o z => kp i (by simp) o z⟩
  item := by
    intro X hP hw hK hc k pins s σ H E I hf st hg
    subst hP hw hK
    obtain ⟨xs, x, hl, hx⟩ := hg
    obtain ⟨⟨old, he⟩, hi⟩ := st
    simp only [List.mem_cons, List.not_mem_nil, or_false, not_or] at c1
    obtain ⟨its, r1, pl, _⟩ := I.list hl
    obtain ⟨u, hu, ru⟩ := r1.get hx
    refine wpAny_pyNext_enum_item he hi pl.isList (x := u) (by simpa using hu) a1 fun h' z1 z2 z3 z4 kp => ?_
    refine ⟨_, rfl, wpAny_letOwnedTupleGo_enum z1 fun h'' y1 sb => ?_⟩
    have fz : H s.heap.objs.size = none := I.hok.fresh (Nat.le_refl _)
    have mine : ∀ c ∈ [e, i], c ≠ s.heap.objs.size := fun c hc' => by
      obtain ⟨o1, e1, _⟩ := id hi
      simp only [List.mem_cons, List.not_mem_nil, or_false] at hc'
      rcases hc' with rfl | rfl
      · exact Nat.ne_of_lt (Heap.lt_size he)
      · exact Nat.ne_of_lt (Heap.lt_size e1)
    have kp2 : ∀ c o, c ∉ [e, i] → s.heap.get? c = some o → h''.get? c = some o := fun c o hc' z => by
      simp only [List.mem_cons, List.not_mem_nil, or_false, not_or] at hc'
      exact sb.extBut _ _ hc'.1 (kp c o hc'.1 hc'.2 z)
    have tp : h''.get? s.heap.objs.size = some { cls := .type "tuple", data := .seq #[.int k s.toks, u] } := sb.extBut _ _ (mine e (by simp)).symm z3
    have notH : ∀ c ∈ [e, i], H c = none := fun c hc' => (hf c hc').1
    have I1 : Inv X pins σ (upd H s.heap.objs.size (.tup [.int k, x])) { s with heap := h'', toks := s.toks + 1 } := by
      have un : Un X.fs [e, i] H (upd H s.heap.objs.size (.tup [.int k, x])) s.heap h'' :=
        ⟨fun c o z n nf hx => kp2 c o hx z, fun c o z n nf hx => ⟨o.slots, kp2 c o hx z⟩, fun c o z n hx => by rw [upd_ne (Nat.ne_of_lt (Heap.lt_size z))]; exact n,
          fun c o z hx => ⟨o, kp2 c o hx z⟩, fun c xs z => by rw [upd_ne (ne_of_none z fz)]; exact z, fun c o xs z => by rw [upd_ne (ne_of_none z fz)]; exact z, fun c ps z => ⟨#[], by rw [upd_ne (ne_of_none z fz), z]; simp⟩⟩
      have hok : HOk X.prog X.w (upd H s.heap.objs.size (.tup [.int k, x])) h'' := fun c o z => by
        by_cases hcs : c = s.heap.objs.size
        · subst hcs
          rw [upd_same] at z
          cases z
          exact ⟨by show 2 ≤ sizeLine; decide, [.int k s.toks, u], .cons ⟨_, rfl⟩ (.cons ru .nil), ⟨_, tp, rfl, _, rfl⟩⟩
        · rw [upd_ne hcs] at z
          refine (I.hok c o z).stay (fun d w' hd q => kp2 d w' (fun zz => ?_) q) (fun d q => ?_) fun d w' q => ?_
          · have hn := notH d zz
            rcases hd with rfl | hd
            · rw [hn] at z; cases z
            · rw [hn] at hd; cases hd
          · rw [upd_ne (ne_of_none q fz)]; exact q
          · rw [upd_ne (ne_of_none q fz)]; exact q
      have hch : ∀ b ∈ [e, i], (b ∈ X.ex ∨ X.s₀.heap.objs.size ≤ b) ∧ b ≠ X.env.locals ∧ (∀ x c, X.env.cells.lookup x = some c → c ≠ b) ∧ ∀ p ∈ X.pn ++ pins, p.1 ≠ b := fun b hb => ⟨(hf b hb).2.2.2.1, (hf b hb).2.1, (hf b hb).2.2.2.2.1, (hf b hb).2.2.2.2.2⟩
      refine I.step (g' := s.gens) (d' := s.drawn) (t' := s.toks + 1) (ch := [e, i]) hch (fun c o _ _ hc' z _ => kp2 c o hc' z) (fun c o _ _ hc' z _ => ⟨o.slots, kp2 c o hc' z⟩) (fun c o hc' z n => un.free c o z n hc') (fun c o hc' z => un.there c o z hc') un.tups un.frzs un.tbls (fun m' hm' => ?_) hok I.bare
      obtain ⟨o, es', ep, ho, r⟩ := hm'
      exact ⟨o, es', ep, kp2 _ o (fun zz => (hf _ zz).2.1 rfl) ho, r⟩
    refine ⟨.ref s.heap.objs.size, _, I1, rfl, ⟨s.heap.objs.size, x, rfl, fz, rfl, fun xs' q => by rw [I.list_inj q hl]; exact hx⟩, ?_, fun c hc' => ?_⟩
    · refine ⟨⟨u, ?_⟩, z2.at fun o z => sb.extBut _ _ (Ne.symm a1) z⟩
      rw [show ((k + 1 : Nat) : Int) = (k : Int) + 1 by omega]
      exact y1
    · rw [upd_ne (mine c hc')]
      exact notH c hc'
  done := by
    intro X hP hw hK hc k pins s σ H E I hf st hg
    subst hP hw hK
    obtain ⟨xs, hl, hx⟩ := hg
    obtain ⟨⟨old, he⟩, hi⟩ := st
    obtain ⟨its, r1, pl, _⟩ := I.list hl
    refine wpAny_pyNext_enum_end (I.ok.hd hc) he hi pl.isList (by simpa using r1.none_of hx) fun h' kp => ⟨rfl, ?_⟩
    have kp2 : ∀ c o, c ∉ [e, i] → s.heap.get? c = some o → h'.get? c = some o := fun c o hc' z => by
      simp only [List.mem_cons, List.not_mem_nil, or_false, not_or] at hc'
      exact kp c o hc'.2 z
    have hch : ∀ b ∈ [e, i], (b ∈ X.ex ∨ X.s₀.heap.objs.size ≤ b) ∧ b ≠ X.env.locals ∧ (∀ x c, X.env.cells.lookup x = some c → c ≠ b) ∧ ∀ p ∈ X.pn ++ pins, p.1 ≠ b := fun b hb => ⟨(hf b hb).2.2.2.1, (hf b hb).2.1, (hf b hb).2.2.2.2.1, (hf b hb).2.2.2.2.2⟩
    refine I.step (g' := s.gens) (d' := s.drawn) (t' := s.toks) (ch := [e, i]) hch (fun c o _ _ hc' z _ => kp2 c o hc' z) (fun c o _ _ hc' z _ => ⟨o.slots, kp2 c o hc' z⟩) (fun _ _ _ _ n => n) (fun c o hc' z => ⟨o, kp2 c o hc' z⟩) (fun _ _ z => z) (fun _ _ _ z => z) (fun b ps z => ⟨#[], by rw [z]; simp⟩) (fun m' hm' => ?_) (fun c o z => ?_) I.bare
    · obtain ⟨o, es', ep, ho, r⟩ := hm'
      exact ⟨o, es', ep, kp2 _ o (fun zz => (hf _ zz).2.1 rfl) ho, r⟩
    · refine (I.hok c o z).stay (fun d w' hd q => kp2 d w' (fun zz => ?_) q) (fun _ q => q) fun _ _ q => q
      have hn := (hf d zz).1
      rcases hd with rfl | hd
      · rw [hn] at z; cases z
      · rw [hn] at hd; cases hd
  self := fun A k s Q E st h => by
    obtain ⟨⟨old, he⟩, _⟩ := st
    exact wpAny_pyIter_enum he h
theorem not_fresh2 {n c : Nat} (h : c < n) (z : c = n + 1 ∨ c = n) : False := by omega
theorem fresh2 {n c : Nat} (z : c = n + 1 ∨ c = n) : n ≤ c := by omega
section
variable {X : Cx}
def iEnum (K : PySem.W.Frag) (ta : TA) : TI := fun σ H R => ta σ H fun vs H1 => ∃ l xs, vs = [.ref l] ∧ SqL K H1 l xs ∧ R (Ite K l) H1
theorem pi_enum {es : List Expr} {k0 : Nat} {tp : Pos} {a : Expr} {ta : TA} {p pos : Pos} (hg : Gl X "enumerate") (hm : X.mg "enumerate" = none) (ha : PA X [a] ta) (hs : starEach [a] X.env = [(false, eval a X.env)] := by rfl) :
    PI X (.Tuple es k0 tp) (.Call (.Name "enumerate" p) [a] [] pos) (iEnum X.K ta) := by
  intro pins s σ H R I h
  refine Call_ (ld_blt I hg hm boot_enumerate (PyProof.Rows.callWith_type1 (thn (ha pos pins s σ H _ I h) fun us s1 ⟨vs, H1, I1, r1, q1⟩ => ?_) (by rw [hs]; rfl) (by rfl)))
  obtain ⟨l, xs, e, hl, q⟩ := q1
  subst e
  obtain ⟨u, rfl, ru⟩ := vals1 r1
  cases (show u = Value.ref l from ru)
  obtain ⟨its, _, pl, _⟩ := I1.list hl
  obtain ⟨ol, eol, _⟩ := id pl.isList
  have ll : l < s1.heap.objs.size := Heap.lt_size eol
  refine call_enumerate_list pl.isList fun h' z1 z2 z3 kp => ?_
  have I2 : Inv X pins σ H1 { s1 with heap := h' } := I1.kept (t' := s1.toks) kp
  refine wpAny_pyIter_enum z1 ⟨s1.heap.objs.size + 1, [s1.heap.objs.size + 1, s1.heap.objs.size], _, _, H1, rfl, I2, turn_enum (l := l) (Nat.succ_ne_self _) (fun z => ?_), ⟨⟨_, z1⟩, z2⟩, fun c hc => ?_, q⟩
  · simp only [List.mem_cons, List.not_mem_nil, or_false] at z; exact not_fresh2 ll z
  · have hcs : s1.heap.objs.size ≤ c := by simp only [List.mem_cons, List.not_mem_nil, or_false] at hc; exact fresh2 hc
    exact I1.fpOk hcs (I1.hok.fresh hcs)
end
theorem items_enum {K : PySem.W.Frag} {a : Addr} {xs : List V} {H1 : Hp} (h : H1 a = some (.lst xs)) (i : Nat) (H : Hp) (s : Same H1 H) :
    (i < xs.length → (Ite K a).go i H ∧ ∀ v H2, (Ite K a).yld i H v H2 → Same H H2 ∧ ∃ p x, v = .ref p ∧ H2 p = some (.tup [.int i, x]) ∧ xs[i]? = some x) ∧ (xs.length ≤ i → (Ite K a).stop i H) := by
  have q : SqL K H a xs := SqL.of (s _ _ h)
  refine ⟨fun hi => ⟨⟨xs, xs[i]'hi, q, List.getElem?_eq_getElem hi⟩, fun v H2 ⟨p, x, e1, e2, e3, e4⟩ => ?_⟩, fun hi => ⟨xs, q, List.getElem?_eq_none hi⟩⟩
  subst e3
  exact ⟨same_new e2 _, p, x, e1, upd_same, e4 xs q⟩
end L2
end
section
/-! Peeling: what is taken out, what is left. -/
namespace BB
set_option linter.unusedVariables false
/-- the balls with an empty box right behind them -/
def bare (row : List Int) : List Int := row.filter fun p => decide (p + 1 ∉ row)
/-- what a comprehension with a test tells of a list -/
theorem sel_list {α β : Type} (d : α) (l : List α) (q : α → Bool) (f : α → β) : ((List.range l.length).filter fun i => q (l.getD i d)).map (fun i => f (l.getD i d)) = (l.filter q).map f := by
  induction l with
  | nil => rfl
  | cons a r ih =>
    rw [List.length_cons, List.range_succ_eq_map, List.filter_cons, List.filter_map, List.filter_cons]
    have e1 : (a :: r).getD 0 d = a := rfl
    have e2 : ((fun i => q ((a :: r).getD i d)) ∘ Nat.succ) = fun i => q (r.getD i d) := rfl
    rw [e1, e2]
    cases hq : q a with
    | true =>
      simp only [if_true, List.map_cons, List.map_map]
      rw [show (List.map ((fun i => f ((a :: r).getD i d)) ∘ Nat.succ) ((List.range r.length).filter fun i => q (r.getD i d))) = ((List.range r.length).filter fun i => q (r.getD i d)).map fun i => f (r.getD i d) from rfl, ih]
      rfl
    | false =>
      simp only [Bool.false_eq_true, if_false, List.map_map]
      rw [show (List.map ((fun i => f ((a :: r).getD i d)) ∘ Nat.succ) ((List.range r.length).filter fun i => q (r.getD i d))) = ((List.range r.length).filter fun i => q (r.getD i d)).map fun i => f (r.getD i d) from rfl, ih]
theorem all_list {α β : Type} (d : α) (l : List α) (f : α → β) : (List.range l.length).map (fun i => f (l.getD i d)) = l.map f := by
  have h := sel_list d l (fun _ => true) f
  rw [List.filter_eq_self.mpr fun _ _ => rfl, List.filter_eq_self.mpr fun _ _ => rfl] at h
  exact h
end BB
end
section
/-! The blocks of a row. -/
namespace BB
def blk : List Int → List (Int × Int)
  | [] => []
  | p :: r => match blk r with
    | [] => [(p, 1)]
    | (q, n) :: t => if q = p + 1 then (p, n + 1) :: t else (p, 1) :: (q, n) :: t
theorem blk_nil {r : List Int} (h : blk r = []) : r = [] := by
  cases r with
  | nil => rfl
  | cons p r =>
    unfold blk at h
    split at h
    · cases h
    · split at h <;> cases h
/-- the first block begins where the row does -/
theorem blk_head {p : Int} {r : List Int} : ∃ n t, blk (p :: r) = (p, n) :: t := by
  unfold blk
  split
  · exact ⟨1, [], rfl⟩
  · split
    · exact ⟨_, _, rfl⟩
    · exact ⟨_, _, rfl⟩
theorem blk_firsts : ∀ {r : List Int}, r.Pairwise (· < ·) → ∀ (b : Int), (∀ x ∈ r, b < x) → ((b :: r).filter fun p => decide (p - 1 ∉ b :: r)) = (blk (b :: r)).map (·.1)
  | [], _, b, _ => by
    simp [blk]
    omega
  | p :: r, up, b, hb => by
    have up' := List.pairwise_cons.mp up
    have ih := blk_firsts up'.2 p up'.1
    obtain ⟨n, t, e⟩ := blk_head (p := p) (r := r)
    have bp := hb p List.mem_cons_self
    have e2 : blk (b :: p :: r) = if p = b + 1 then (b, n + 1) :: t else (b, 1) :: (p, n) :: t := by
      conv => lhs; unfold blk
      rw [e]
    have b1 : b - 1 ∉ b :: p :: r := fun z => by
      rcases List.mem_cons.mp z with z | z
      · omega
      · have := hb _ z; omega
    have same : ((p :: r).filter fun x => decide (x - 1 ∉ b :: p :: r)) = if p = b + 1 then r.filter (fun x => decide (x - 1 ∉ p :: r)) else (p :: r).filter fun x => decide (x - 1 ∉ p :: r) := by
      have out : ∀ x ∈ r, (x - 1 ∉ b :: p :: r ↔ x - 1 ∉ p :: r) := fun x hx => by
        have := up'.1 x hx
        simp only [List.mem_cons, not_or]
        constructor
        · intro z; exact z.2
        · intro z
          refine ⟨by omega, z⟩
      have rest : (r.filter fun x => decide (x - 1 ∉ b :: p :: r)) = r.filter fun x => decide (x - 1 ∉ p :: r) := List.filter_congr fun x hx => by rw [decide_eq_decide]; exact out x hx
      split
      · rename_i c
        rw [List.filter_cons_of_neg (by subst c; simp), rest]
      · rename_i c
        have p1 : p - 1 ∉ b :: p :: r := fun z => by
          rcases List.mem_cons.mp z with z | z
          · omega
          · rcases List.mem_cons.mp z with z | z
            · omega
            · have := up'.1 _ z; omega
        have p2 : p - 1 ∉ p :: r := fun z => p1 (List.mem_cons_of_mem _ z)
        rw [List.filter_cons_of_pos (by simpa using p1), List.filter_cons_of_pos (by simpa using p2), rest]
    rw [List.filter_cons_of_pos (by simpa using b1), same, e2]
    rw [e, List.map_cons] at ih
    have p2 : p - 1 ∉ p :: r := fun z => by
      rcases List.mem_cons.mp z with z | z
      · omega
      · have := up'.1 _ z; omega
    rw [List.filter_cons_of_pos (by simpa using p2)] at ih
    injection ih with _ ih
    split
    · rw [List.map_cons, ih]
    · rw [List.filter_cons_of_pos (by simpa using p2), ih]
      rfl
theorem blk_lasts : ∀ {r : List Int}, r.Pairwise (· < ·) → ∀ (b : Int), (∀ x ∈ r, b < x) → ((b :: r).filter fun p => decide (p + 1 ∉ b :: r)) = (blk (b :: r)).map fun q => q.1 + q.2 - 1
  | [], _, b, _ => by
    simp [blk]
    omega
  | p :: r, up, b, hb => by
    have up' := List.pairwise_cons.mp up
    have ih := blk_lasts up'.2 p up'.1
    obtain ⟨n, t, e⟩ := blk_head (p := p) (r := r)
    have bp := hb p List.mem_cons_self
    have e2 : blk (b :: p :: r) = if p = b + 1 then (b, n + 1) :: t else (b, 1) :: (p, n) :: t := by
      conv => lhs; unfold blk
      rw [e]
    have rest : ((p :: r).filter fun x => decide (x + 1 ∉ b :: p :: r)) = (p :: r).filter fun x => decide (x + 1 ∉ p :: r) := List.filter_congr fun x hx => by
      have := hb x hx
      rw [decide_eq_decide]
      constructor
      · intro z y; exact z (List.mem_cons_of_mem _ y)
      · intro z y
        rcases List.mem_cons.mp y with y | y
        · omega
        · exact z y
    rw [e2]
    rw [e, List.map_cons] at ih
    split
    · rename_i c
      rw [List.filter_cons_of_neg (by subst c; simp), rest, ih, List.map_cons]
      congr 1
      show p + n - 1 = b + (n + 1) - 1
      omega
    · rename_i c
      have b1 : b + 1 ∉ b :: p :: r := fun z => by
        rcases List.mem_cons.mp z with z | z
        · omega
        · rcases List.mem_cons.mp z with z | z
          · omega
          · have := up'.1 _ z; omega
      rw [List.filter_cons_of_pos (by simpa using b1), rest, ih]
      show b :: _ = (b + 1 - 1) :: _
      rw [show b + 1 - 1 = b by omega]
      rfl
end BB
end
section
/-! Runs of balls and of empty boxes by turns, and the waves that are taken out of them. -/
namespace BB
set_option linter.unusedVariables false
def par : Bool → Nat → Bool
  | b, 0 => b
  | b, n + 1 => par (!b) n
theorem par_succ : ∀ (b : Bool) (n : Nat), par b (n + 1) = !(par b n)
  | _, 0 => rfl
  | b, n + 1 => par_succ (!b) n
theorem par_even : ∀ (n : Nat) (b : Bool), par b n = if n % 2 = 0 then b else !b
  | 0, b => rfl
  | n + 1, b => by
    rw [par_succ, par_even n b]
    by_cases c : n % 2 = 0
    · rw [if_pos c, if_neg (by omega)]
    · rw [if_neg c, if_pos (by omega), Bool.not_not]
/-- the first run that is no longer than the next -/
def fs : List (List Int) → Nat
  | s :: g :: r => if s.length ≤ g.length then 0 else 1 + fs (g :: r)
  | _ => 0
def wv (R : List (List Int)) (a : Nat) : List Int × List Int :=
  if a % 2 = 0 then (R.getD a [], (R.getD (a + 1) []).take (R.getD a []).length) else ((R.getD (a + 1) []).take (R.getD a []).length, R.getD a [])
def wo (R : List (List Int)) (a : Nat) : List (List Int) :=
  if a = 0 then R.drop 2 else R.take (a - 1) ++ [R.getD (a - 1) [] ++ (R.getD (a + 1) []).drop (R.getD a []).length] ++ R.drop (a + 2)
def wvs : Nat → List (List Int) → List (List Int × List Int)
  | 0, _ => []
  | n + 1, R => if R = [] then [] else wv R (fs R) :: wvs n (wo R (fs R))
theorem getD_pre {α : Type} (d : α) (pre : List α) (x : α) (r : List α) : (pre ++ x :: r).getD pre.length d = x := by
  rw [List.getD_eq_getElem?_getD, List.getElem?_append_right (Nat.le_refl _), Nat.sub_self]
  rfl
theorem getD_pre1 {α : Type} (d : α) (pre : List α) (x y : α) (r : List α) : (pre ++ x :: y :: r).getD (pre.length + 1) d = y := by
  rw [List.getD_eq_getElem?_getD, List.getElem?_append_right (by omega), Nat.add_sub_cancel_left]
  rfl
theorem wo_app (p : List (List Int)) (h s g : List Int) (post : List (List Int)) : wo ((p ++ [h]) ++ s :: g :: post) (p ++ [h]).length = p ++ [h ++ g.drop s.length] ++ post := by
  have l : (p ++ [h]).length = p.length + 1 := by rw [List.length_append]; rfl
  unfold wo
  rw [if_neg (by omega), getD_pre, getD_pre1, l, Nat.add_sub_cancel]
  have e : (p ++ [h]) ++ s :: g :: post = p ++ h :: s :: g :: post := by rw [List.append_assoc]; rfl
  rw [e, getD_pre, List.take_left' rfl]
  congr 1
  rw [show p.length + 1 + 2 = p.length + 3 by omega, ← List.drop_drop, List.drop_left' rfl]
  rfl
theorem fs_ok : ∀ R : List (List Int), 2 ≤ R.length → (R.getD (R.length - 2) []).length ≤ (R.getD (R.length - 1) []).length → ∃ pre s g post, R = pre ++ s :: g :: post ∧ fs R = pre.length ∧ s.length ≤ g.length
  | s :: g :: r, _, h => by
    unfold fs
    by_cases c : s.length ≤ g.length
    · exact ⟨[], s, g, r, rfl, by rw [if_pos c]; rfl, c⟩
    · rw [if_neg c]
      cases r with
      | nil => exact absurd h c
      | cons x r =>
        obtain ⟨pre, s', g', post, e1, e2, e3⟩ := fs_ok (g :: x :: r) (by simp) h
        exact ⟨s :: pre, s', g', post, by rw [e1]; rfl, by rw [e2, List.length_cons]; omega, e3⟩
theorem fs_lt : ∀ (R : List (List Int)) (j : Nat), j < fs R → (R.getD (j + 1) []).length < (R.getD j []).length
  | [], j, h => absurd h (Nat.not_lt_zero _)
  | [s], j, h => absurd h (Nat.not_lt_zero _)
  | s :: g :: r, j, h => by
    unfold fs at h
    by_cases c : s.length ≤ g.length
    · rw [if_pos c] at h; omega
    · rw [if_neg c] at h
      cases j with
      | zero => exact Nat.lt_of_not_le c
      | succ j => exact fs_lt (g :: r) j (by omega)
/-- how many balls there are -/
def bls : Bool → List (List Int) → Nat
  | _, [] => 0
  | b, x :: R => (if b = true then x.length else 0) + bls (!b) R
theorem bls_app : ∀ (A B : List (List Int)) (b : Bool), bls b (A ++ B) = bls b A + bls (par b A.length) B
  | [], B, b => by show bls b B = 0 + bls b B; omega
  | x :: A, B, b => by
    show _ + bls (!b) (A ++ B) = _ + bls (!b) A + bls (par (!b) A.length) B
    rw [bls_app A B (!b)]
    omega
theorem bls_ge : ∀ (R : List (List Int)) (b : Bool) (j : Nat), par b j = true → (R.getD j []).length ≤ bls b R
  | [], b, j, _ => Nat.zero_le _
  | x :: R, b, 0, h => by
    have h' : b = true := h
    show x.length ≤ (if b = true then x.length else 0) + _
    rw [if_pos h']
    omega
  | x :: R, b, j + 1, h => by
    have := bls_ge R (!b) j h
    show (R.getD j []).length ≤ _ + bls (!b) R
    omega
structure Gd (N : Nat) (R : List (List Int)) : Prop where
  ne : ∀ r ∈ R, r ≠ []
  ev : R.length % 2 = 0
  nb : bls true R ≤ N
  en : R ≠ [] → N + 1 ≤ (R.getD (R.length - 1) []).length
theorem Gd.at {N : Nat} {R : List (List Int)} (d : Gd N R) (h : R ≠ []) : ∃ pre s g post, R = pre ++ s :: g :: post ∧ fs R = pre.length ∧ s.length ≤ g.length := by
  have l0 : 0 < R.length := List.length_pos_iff.mpr h
  have ev := d.ev
  have b := bls_ge R true (R.length - 2) (by rw [par_even, if_pos (by omega)])
  have := d.en h
  have := d.nb
  exact fs_ok R (by omega) (by omega)
theorem last_app {α : Type} (d : α) (A : List α) {B : List α} (h : B ≠ []) : (A ++ B).getD ((A ++ B).length - 1) d = B.getD (B.length - 1) d := by
  have : 0 < B.length := List.length_pos_iff.mpr h
  rw [List.getD_eq_getElem?_getD, List.getD_eq_getElem?_getD, List.length_append, List.getElem?_append_right (by omega)]
  congr 2
  omega
/-- the size of a wave is no more than the balls -/
theorem Gd.size {N : Nat} {pre post : List (List Int)} {s g : List Int} (d : Gd N (pre ++ s :: g :: post)) (l : s.length ≤ g.length) : s.length ≤ N ∧ (par true pre.length = false → g.length ≤ N) := by
  have nb := d.nb
  rw [bls_app] at nb
  have e : bls (par true pre.length) (s :: g :: post) = (if par true pre.length = true then s.length else 0) + ((if (!par true pre.length) = true then g.length else 0) + bls (!!par true pre.length) post) := rfl
  rw [e] at nb
  cases c : par true pre.length with
  | true =>
    rw [c, if_pos rfl] at nb
    exact ⟨by omega, fun z => by cases z⟩
  | false =>
    rw [c, if_neg Bool.false_ne_true, if_pos (by rfl)] at nb
    exact ⟨by omega, fun _ => by omega⟩
theorem Gd.wo {N : Nat} {pre post : List (List Int)} {s g : List Int} (d : Gd N (pre ++ s :: g :: post)) (l : s.length ≤ g.length) : Gd (N - s.length) (BB.wo (pre ++ s :: g :: post) pre.length) := by
  obtain ⟨sz, _⟩ := d.size l
  have nb := d.nb
  have ev := d.ev
  have s1 : 1 ≤ s.length := List.length_pos_iff.mpr (d.ne s (by simp))
  have dl : (g.drop s.length).length = g.length - s.length := List.length_drop ..
  rcases List.eq_nil_or_concat pre with e | ⟨p, h, e⟩
  · subst e
    show Gd _ post
    refine ⟨fun r hr => d.ne r (by simp [hr]), ?_, ?_, fun h => ?_⟩
    · simp only [List.nil_append, List.length_cons] at ev
      omega
    · have : bls true (s :: g :: post) = s.length + (0 + bls true post) := rfl
      rw [List.nil_append, this] at nb
      omega
    · have := d.en (by simp)
      rw [List.nil_append, show s :: g :: post = [s, g] ++ post from rfl, last_app [] [s, g] h] at this
      omega
  · rw [List.concat_eq_append] at e
    subst e
    rw [wo_app]
    have hh : h ≠ [] := d.ne h (by simp)
    have h1 : 1 ≤ h.length := List.length_pos_iff.mpr hh
    refine ⟨fun r hr => ?_, ?_, ?_, fun _ => ?_⟩
    · rw [List.append_assoc, List.mem_append, List.mem_append, List.mem_singleton] at hr
      rcases hr with z | z | z
      · exact d.ne r (by simp [z])
      · subst z
        intro w
        exact hh (List.append_eq_nil_iff.mp w).1
      · exact d.ne r (by simp [z])
    · simp only [List.length_append, List.length_cons, List.length_nil] at ev ⊢
      omega
    · rw [List.append_assoc, bls_app] at nb
      rw [List.append_assoc, bls_app]
      generalize par true p.length = b at nb ⊢
      have e1 : bls b ([h] ++ s :: g :: post) = (if b = true then h.length else 0) + ((if (!b) = true then s.length else 0) + ((if (!!b) = true then g.length else 0) + bls (!!!b) post)) := rfl
      have e2 : bls b ([h ++ g.drop s.length] ++ post) = (if b = true then (h ++ g.drop s.length).length else 0) + bls (!b) post := rfl
      rw [e1] at nb
      rw [e2, List.length_append, dl]
      cases b with
      | true => simp only [Bool.not_true, Bool.not_false, if_true, Bool.false_eq_true, if_false] at nb ⊢; omega
      | false => simp only [Bool.not_true, Bool.not_false, if_true, Bool.false_eq_true, if_false] at nb ⊢; omega
    · have en := d.en (by simp)
      by_cases c : post = []
      · subst c
        rw [List.append_nil, last_app [] p (by simp)]
        rw [last_app [] (p ++ [h]) (by simp)] at en
        show _ ≤ (h ++ g.drop s.length).length
        have en' : N + 1 ≤ g.length := en
        rw [List.length_append, dl]
        omega
      · rw [last_app [] _ c]
        rw [show (p ++ [h]) ++ s :: g :: post = ((p ++ [h]) ++ [s, g]) ++ post by simp, last_app [] _ c] at en
        omega
end BB
end
section
/-! Two lists of runs that agree as far as it matters have the same waves; runs out of boxes. -/
namespace BB
set_option linter.unusedVariables false
def Ag1 (m : Nat) (b : Bool) (x y : List Int) : Prop := if b = true then x = y else x.take m = y.take m
def Ag (m : Nat) : Bool → List (List Int) → List (List Int) → Prop
  | _, [], [] => True
  | b, x :: R, y :: R' => Ag1 m b x y ∧ Ag m (!b) R R'
  | _, _, _ => False
theorem ag1_t {m : Nat} {x y : List Int} : Ag1 m true x y ↔ x = y := by unfold Ag1; rw [if_pos rfl]
theorem ag1_f {m : Nat} {x y : List Int} : Ag1 m false x y ↔ x.take m = y.take m := by unfold Ag1; rw [if_neg Bool.false_ne_true]
theorem take_less {m k : Nat} {x y : List Int} (h : x.take m = y.take m) (l : k ≤ m) : x.take k = y.take k := by
  have := congrArg (List.take k) h
  rw [List.take_take, List.take_take, Nat.min_eq_left l] at this
  exact this
theorem take_len {m : Nat} {x y : List Int} (h : x.take m = y.take m) : min m x.length = min m y.length := by
  have := congrArg List.length h
  rw [List.length_take, List.length_take] at this
  exact this
theorem take_all {m : Nat} {x y : List Int} (h : x.take m = y.take m) (l : x.length < m) : x = y := by
  have := take_len h
  rw [List.take_of_length_le (by omega), List.take_of_length_le (by omega)] at h
  exact h
theorem take_app {m : Nat} {x y x' y' : List Int} (h : x.take m = x'.take m) (k : y.take m = y'.take m) : (x ++ y).take m = (x' ++ y').take m := by
  by_cases l : x.length < m
  · have := take_all h l
    subst this
    rw [List.take_append, List.take_append, take_less k (by omega)]
  · have := take_len h
    rw [List.take_append, List.take_append, h, show m - x.length = 0 by omega, show m - x'.length = 0 by omega, List.take_zero, List.take_zero]
theorem take_drop' {m k : Nat} {x y : List Int} (h : x.take m = y.take m) : (x.drop k).take (m - k) = (y.drop k).take (m - k) := by
  have := congrArg (List.drop k) h
  rw [List.drop_take, List.drop_take] at this
  exact this
theorem ag_mono {m m' : Nat} (l : m' ≤ m) : ∀ (R R' : List (List Int)) (b : Bool), Ag m b R R' → Ag m' b R R'
  | [], [], _, _ => trivial
  | x :: R, y :: R', b, h => ⟨by
      cases b with
      | true => exact ag1_t.mpr (ag1_t.mp h.1)
      | false => exact ag1_f.mpr (take_less (ag1_f.mp h.1) l), ag_mono l R R' (!b) h.2⟩
  | [], _ :: _, _, h => h.elim
  | _ :: _, [], _, h => h.elim
theorem ag_app {m : Nat} : ∀ (A : List (List Int)) {X Y : List (List Int)} {b : Bool}, Ag m b (A ++ X) Y → ∃ A' X', Y = A' ++ X' ∧ A'.length = A.length ∧ Ag m b A A' ∧ Ag m (par b A.length) X X'
  | [], X, Y, b, h => ⟨[], Y, rfl, rfl, trivial, h⟩
  | x :: A, X, [], b, h => h.elim
  | x :: A, X, y :: Y, b, h => by
    obtain ⟨A', X', e, l, h1, h2⟩ := ag_app A h.2
    exact ⟨y :: A', X', by rw [e]; rfl, by rw [List.length_cons, List.length_cons, l], ⟨h.1, h1⟩, h2⟩
theorem ag_join {m : Nat} : ∀ (A A' : List (List Int)) {X X' : List (List Int)} {b : Bool}, Ag m b A A' → Ag m (par b A.length) X X' → Ag m b (A ++ X) (A' ++ X')
  | [], [], X, X', b, _, h => h
  | x :: A, y :: A', X, X', b, h, k => ⟨h.1, ag_join A A' h.2 k⟩
  | [], _ :: _, _, _, _, h, _ => h.elim
  | _ :: _, [], _, _, _, h, _ => h.elim
theorem ag_fs {m : Nat} : ∀ (R R' : List (List Int)) (b : Bool), Ag m b R R' → bls b R < m → fs R = fs R'
  | [], [], _, _, _ => rfl
  | [x], [y], _, _, _ => rfl
  | s :: g :: R, s' :: g' :: R', b, h, l => by
    have l1 : bls (!b) (g :: R) < m := by
      have : bls b (s :: g :: R) = _ + bls (!b) (g :: R) := rfl
      omega
    have ih := ag_fs (g :: R) (g' :: R') (!b) h.2 l1
    have c : s.length ≤ g.length ↔ s'.length ≤ g'.length := by
      cases b with
      | true =>
        have e1 := ag1_t.mp h.1
        have e2 := take_len (ag1_f.mp h.2.1)
        subst e1
        have : bls true (s :: g :: R) = s.length + bls false (g :: R) := rfl
        omega
      | false =>
        have e1 := take_len (ag1_f.mp h.1)
        have e2 := ag1_t.mp h.2.1
        subst e2
        have : bls false (s :: g :: R) = 0 + (g.length + bls false R) := rfl
        omega
    unfold fs
    by_cases z : s.length ≤ g.length
    · rw [if_pos z, if_pos (c.mp z)]
    · rw [if_neg z, if_neg (fun w => z (c.mpr w)), ih]
  | [], _ :: _, _, h, _ => h.elim
  | _ :: _, [], _, h, _ => h.elim
  | [x], _ :: _ :: _, _, h, _ => h.2.elim
  | _ :: _ :: _, [x], _, h, _ => h.2.elim
theorem wvs_ag : ∀ (n N : Nat) (R R' : List (List Int)), Gd N R → Gd N R' → Ag (N + 1) true R R' → wvs n R = wvs n R'
  | 0, _, _, _, _, _, _ => rfl
  | n + 1, N, R, R', d, d', h => by
    unfold wvs
    by_cases e : R = []
    · subst e
      cases R' with
      | nil => rfl
      | cons _ _ => exact h.elim
    have e' : R' ≠ [] := fun z => by
      subst z
      cases R with
      | nil => exact e rfl
      | cons _ _ => exact h
    rw [if_neg e, if_neg e']
    have ef : fs R = fs R' := ag_fs R R' true h (Nat.lt_succ_of_le d.nb)
    obtain ⟨pre, s, g, post, rfl, e2, l⟩ := d.at e
    obtain ⟨pre', s', g', post', rfl, e2', l'⟩ := d'.at e'
    have lp : pre.length = pre'.length := by omega
    obtain ⟨A', X', x1, x2, x3, x4⟩ := ag_app pre h
    have x5 : ∃ X2, X' = s' :: g' :: X2 ∧ A' = pre' ∧ X2 = post' := by
      obtain ⟨h1, h2⟩ := List.append_inj x1 (by omega)
      exact ⟨post', h2.symm, h1.symm, rfl⟩
    obtain ⟨X2, rfl, rfl, rfl⟩ := x5
    obtain ⟨a1, a2, a3⟩ := x4
    obtain ⟨sz, gz⟩ := d.size l
    obtain ⟨sz', gz'⟩ := d'.size l'
    -- the two runs
    have ss : s = s' ∧ g.take s.length = g'.take s.length ∧ Ag1 (N + 1 - s.length) (!par true pre.length) (g.drop s.length) (g'.drop s.length) := by
      cases c : par true pre.length with
      | true =>
        rw [c] at a1 a2
        have a2' := ag1_f.mp a2
        exact ⟨ag1_t.mp a1, take_less a2' (by omega), ag1_f.mpr (take_drop' a2')⟩
      | false =>
        rw [c] at a1 a2
        have a2' := ag1_t.mp a2
        subst a2'
        exact ⟨take_all (ag1_f.mp a1) (by omega), rfl, ag1_t.mpr rfl⟩
    obtain ⟨rfl, tk, dr⟩ := ss
    have ew : wv (pre ++ s :: g :: post) (fs (pre ++ s :: g :: post)) = wv (A' ++ s :: g' :: X2) (fs (A' ++ s :: g' :: X2)) := by
      rw [e2, e2', ← x2]
      unfold wv
      rw [getD_pre, getD_pre1, x2, getD_pre, getD_pre1, tk]
    rw [ew]
    congr 1
    have w1 := d.wo l
    have w2 := d'.wo l'
    rw [e2, e2']
    refine wvs_ag n (N - s.length) _ _ w1 w2 ?_
    have le : N - s.length + 1 ≤ N + 1 := by omega
    have me : N - s.length + 1 = N + 1 - s.length := by omega
    rcases List.eq_nil_or_concat pre with z | ⟨p, hh, z⟩
    · subst z
      have z' : A' = [] := List.length_eq_zero_iff.mp x2
      subst z'
      exact ag_mono le _ _ _ a3
    · rw [List.concat_eq_append] at z
      subst z
      obtain ⟨B', Y', y1, y2, y3, y4⟩ := ag_app p x3
      cases Y' with
      | nil => exact y4.elim
      | cons k Y' =>
        cases Y' with
        | cons _ _ => exact y4.2.elim
        | nil =>
          subst y1
          rw [wo_app, wo_app, List.append_assoc, List.append_assoc]
          refine ag_join p B' (ag_mono le _ _ _ y3) ⟨?_, ?_⟩
          · have pp : par true (p ++ [hh]).length = !par true p.length := by rw [List.length_append]; exact par_succ true p.length
            rw [pp, Bool.not_not] at dr
            have y5 := y4.1
            cases c : par true p.length with
            | true =>
              rw [c] at dr y5
              rw [ag1_t.mp y5, ag1_t.mp dr]
              exact ag1_t.mpr rfl
            | false =>
              rw [c] at dr y5
              refine ag1_f.mpr (take_app (take_less (ag1_f.mp y5) le) ?_)
              rw [me]
              exact ag1_f.mp dr
          · have pp : par true (p ++ [hh]).length = !par true p.length := by rw [List.length_append]; exact par_succ true p.length
            rw [pp, Bool.not_not] at a3
            exact ag_mono le _ _ _ a3
/-- runs as boxes -/
def fl : Bool → List (List Int) → List (Int × Bool)
  | _, [] => []
  | b, r :: R => (r.map fun p => (p, b)) ++ fl (!b) R
def bx (E : List Int) (R : List (List Int)) : List (Int × Bool) := (E.map fun p => (p, false)) ++ fl true R
theorem fl_app : ∀ (A B : List (List Int)) (b : Bool), fl b (A ++ B) = fl b A ++ fl (par b A.length) B
  | [], B, b => rfl
  | x :: A, B, b => by
    show _ ++ fl (!b) (A ++ B) = (_ ++ fl (!b) A) ++ fl (par (!b) A.length) B
    rw [fl_app A B (!b), List.append_assoc]
theorem fl_fst : ∀ (R : List (List Int)) (b : Bool), (fl b R).map (·.1) = R.flatten
  | [], _ => rfl
  | r :: R, b => by
    show ((r.map fun p => (p, b)) ++ fl (!b) R).map (·.1) = r ++ R.flatten
    rw [List.map_append, fl_fst R (!b), List.map_map]
    congr 1
    exact (List.map_congr_left fun _ _ => rfl).trans (List.map_id r)
theorem filt_all {l : List (Int × Bool)} {G : List Int} (h : ∀ z ∈ l, z.1 ∉ G) : l.filter (fun z => decide (z.1 ∉ G)) = l := List.filter_eq_self.mpr fun z hz => decide_eq_true (h z hz)
theorem filt_none {l : List (Int × Bool)} {G : List Int} (h : ∀ z ∈ l, z.1 ∈ G) : l.filter (fun z => decide (z.1 ∉ G)) = [] := List.filter_eq_nil_iff.mpr fun z hz w => of_decide_eq_true w (h z hz)
theorem bx_out {E : List Int} {pre post : List (List Int)} {s g : List Int} (nd : ((bx E (pre ++ s :: g :: post)).map (·.1)).Nodup) (l : s.length ≤ g.length) :
    (bx E (pre ++ s :: g :: post)).filter (fun z => decide (z.1 ∉ s ++ g.take s.length)) = bx (if pre = [] then E ++ g.drop s.length else E) (wo (pre ++ s :: g :: post) pre.length) := by
  unfold bx at nd ⊢
  rw [List.map_append, fl_fst, List.map_map, List.flatten_append, List.flatten_cons, List.flatten_cons] at nd
  have eE : E.map ((·.1) ∘ fun p => (p, false)) = E := (List.map_congr_left fun _ _ => rfl).trans (List.map_id E)
  rw [eE] at nd
  have gs : g = g.take s.length ++ g.drop s.length := (List.take_append_drop ..).symm
  generalize hb : par true pre.length = b
  have ef : fl true (pre ++ s :: g :: post) = fl true pre ++ ((s.map fun p => (p, b)) ++ (((g.take s.length).map fun p => (p, !b)) ++ (((g.drop s.length).map fun p => (p, !b)) ++ fl b post))) := by
    rw [fl_app, hb]
    show _ ++ ((s.map fun p => (p, b)) ++ ((g.map fun p => (p, !b)) ++ fl (!!b) post)) = _
    rw [Bool.not_not]
    conv => lhs; rw [gs]
    rw [List.map_append, List.append_assoc]
  have nd2 : (E ++ (pre.flatten ++ (s ++ ((g.take s.length ++ g.drop s.length) ++ post.flatten)))).Nodup := by rw [← gs]; exact nd
  have D : ∀ x, x ∈ s ++ g.take s.length → x ∉ E ∧ x ∉ pre.flatten ∧ x ∉ g.drop s.length ∧ x ∉ post.flatten := by
    intro x hx
    rw [List.nodup_append] at nd2
    obtain ⟨_, n2, n3⟩ := nd2
    rw [List.nodup_append] at n2
    obtain ⟨_, n4, n5⟩ := n2
    rw [List.nodup_append] at n4
    obtain ⟨_, n6, n7⟩ := n4
    rw [List.nodup_append] at n6
    obtain ⟨n8, _, n9⟩ := n6
    rw [List.nodup_append] at n8
    obtain ⟨_, _, n10⟩ := n8
    rcases List.mem_append.mp hx with z | z
    · have z1 : x ∈ s ++ ((g.take s.length ++ g.drop s.length) ++ post.flatten) := List.mem_append_left _ z
      exact ⟨fun w => n3 x w x (List.mem_append_right _ z1) rfl, fun w => n5 x w x z1 rfl, fun w => n7 x z x (List.mem_append_left _ (List.mem_append_right _ w)) rfl, fun w => n7 x z x (List.mem_append_right _ w) rfl⟩
    · have z1 : x ∈ s ++ ((g.take s.length ++ g.drop s.length) ++ post.flatten) := List.mem_append_right _ (List.mem_append_left _ (List.mem_append_left _ z))
      exact ⟨fun w => n3 x w x (List.mem_append_right _ z1) rfl, fun w => n5 x w x z1 rfl, fun w => n10 x z x w rfl, fun w => n9 x (List.mem_append_left _ z) x w rfl⟩
  have F : ∀ {l : List (Int × Bool)} {L : List Int}, l.map (·.1) = L → (∀ x, x ∈ s ++ g.take s.length → x ∉ L) → l.filter (fun z => decide (z.1 ∉ s ++ g.take s.length)) = l := fun {l L} e h => filt_all fun z hz w => h z.1 w (by rw [← e]; exact List.mem_map_of_mem (f := (·.1)) hz)
  have mm : ∀ (L : List Int) (c : Bool), (L.map fun p => (p, c)).map (·.1) = L := fun L c => by rw [List.map_map]; exact (List.map_congr_left fun _ _ => rfl).trans (List.map_id L)
  rw [ef, List.filter_append, List.filter_append, List.filter_append, List.filter_append, List.filter_append, F (mm E false) fun x h => (D x h).1, F (fl_fst pre true) fun x h => (D x h).2.1, F (mm _ (!b)) fun x h => (D x h).2.2.1, F (fl_fst post b) fun x h => (D x h).2.2.2,
    filt_none (l := s.map fun p => (p, b)) fun z hz => by obtain ⟨y, hy, rfl⟩ := List.mem_map.mp hz; exact List.mem_append_left _ hy, filt_none (l := (g.take s.length).map fun p => (p, !b)) fun z hz => by obtain ⟨y, hy, rfl⟩ := List.mem_map.mp hz; exact List.mem_append_right _ hy, List.nil_append, List.nil_append]
  rcases List.eq_nil_or_concat pre with z | ⟨p, hh, z⟩
  · subst z
    have hb' : b = true := hb.symm
    subst hb'
    show _ = ((E ++ g.drop s.length).map fun p => (p, false)) ++ fl true post
    rw [List.map_append, List.append_assoc]
    rfl
  · rw [List.concat_eq_append] at z
    subst z
    have pp : par true (p ++ [hh]).length = !par true p.length := by rw [List.length_append]; exact par_succ true p.length
    have hb' : par true p.length = !b := by rw [← hb, pp, Bool.not_not]
    have eL : fl true (p ++ [hh]) = fl true p ++ fl (!b) [hh] := by rw [fl_app, hb']
    have eR : fl true (p ++ [hh ++ g.drop s.length] ++ post) = fl true p ++ fl (!b) ([hh ++ g.drop s.length] ++ post) := by rw [List.append_assoc, fl_app, hb']
    rw [if_neg (by simp), wo_app, eL, eR]
    show _ ++ ((_ ++ ((hh.map fun p => (p, !b)) ++ [])) ++ _) = _ ++ (_ ++ (((hh ++ g.drop s.length).map fun p => (p, !b)) ++ fl (!!b) post))
    rw [Bool.not_not, List.map_append, List.append_nil]
    simp only [List.append_assoc]
/-- boxes gathered into runs -/
def gin (acc : List (Bool × List Int)) (z : Int × Bool) : List (Bool × List Int) := match acc.getLast? with
  | some (b, r) => if b = z.2 then acc.dropLast ++ [(b, r ++ [z.1])] else acc ++ [(z.2, [z.1])]
  | none => [(z.2, [z.1])]
def grp (l : List (Int × Bool)) : List (Bool × List Int) := l.foldl gin []
def alt : Bool → List (List Int) → List (Bool × List Int)
  | _, [] => []
  | b, r :: R => (b, r) :: alt (!b) R
theorem gin_more (b : Bool) : ∀ (r q : List Int) (acc : List (Bool × List Int)), (r.map fun p => (p, b)).foldl gin (acc ++ [(b, q)]) = acc ++ [(b, q ++ r)]
  | [], q, acc => by rw [List.append_nil]; rfl
  | p :: r, q, acc => by
    show (r.map fun p => (p, b)).foldl gin (gin (acc ++ [(b, q)]) (p, b)) = _
    have e : gin (acc ++ [(b, q)]) (p, b) = acc ++ [(b, q ++ [p])] := by
      unfold gin
      rw [List.getLast?_concat]
      show (if b = b then _ else _) = _
      rw [if_pos rfl, List.dropLast_concat]
    rw [e, gin_more b r (q ++ [p]) acc, List.append_assoc]
    rfl
theorem gin_run {b : Bool} {acc : List (Bool × List Int)} (h : ∀ x, acc.getLast? = some x → x.1 ≠ b) : ∀ {r : List Int}, r ≠ [] → (r.map fun p => (p, b)).foldl gin acc = acc ++ [(b, r)]
  | [], z => absurd rfl z
  | p :: r, _ => by
    show (r.map fun p => (p, b)).foldl gin (gin acc (p, b)) = _
    have e : gin acc (p, b) = acc ++ [(b, [p])] := by
      unfold gin
      cases c : acc.getLast? with
      | none => rw [List.getLast?_eq_none_iff.mp c]; rfl
      | some x => exact if_neg (h x c)
    rw [e, gin_more b r [p] acc]
    rfl
theorem grp_fl : ∀ (R : List (List Int)) (b : Bool) (acc : List (Bool × List Int)), (∀ r ∈ R, r ≠ []) → (∀ x, acc.getLast? = some x → x.1 ≠ b) → (fl b R).foldl gin acc = acc ++ alt b R
  | [], b, acc, _, _ => by rw [show alt b [] = [] from rfl, List.append_nil]; rfl
  | r :: R, b, acc, h, k => by
    show ((r.map fun p => (p, b)) ++ fl (!b) R).foldl gin acc = _
    rw [List.foldl_append, gin_run k (h r List.mem_cons_self), grp_fl R (!b) _ (fun x hx => h x (List.mem_cons_of_mem _ hx)) fun x hx => ?_, List.append_assoc]
    · rfl
    · rw [List.getLast?_concat] at hx
      cases hx
      cases b <;> simp
theorem grp_bx {E : List Int} {R : List (List Int)} (h : ∀ r ∈ R, r ≠ []) : grp (bx E R) = (if E = [] then [] else [(false, E)]) ++ alt true R := by
  unfold grp bx
  rw [List.foldl_append]
  by_cases e : E = []
  · subst e
    rw [if_pos rfl]
    exact grp_fl R true [] h fun x hx => by cases hx
  · rw [if_neg e, gin_run (fun x hx => by cases hx) e, List.nil_append]
    exact grp_fl R true [(false, E)] h fun x hx => by cases hx; simp
end BB
end
section
/-! Blocks put farther. -/
namespace BB
theorem blk_all : ∀ row : List Int, (∀ b ∈ blk row, b.1 ∈ row ∧ 1 ≤ b.2 ∧ b.2 ≤ row.length) ∧ ((blk row).map fun b => b.2.toNat).sum = row.length
  | [] => ⟨fun _ h => absurd h List.not_mem_nil, rfl⟩
  | p :: r => by
    obtain ⟨h1, h2⟩ := blk_all r
    unfold blk
    split
    · rename_i e
      have := blk_nil e
      subst this
      refine ⟨fun b hb => ?_, rfl⟩
      rw [List.mem_singleton] at hb
      subst hb
      exact ⟨List.mem_cons_self, Int.le_refl 1, by simp⟩
    · rename_i q n t e
      rw [e] at h1 h2
      have hq := h1 (q, n) List.mem_cons_self
      simp only [List.map_cons, List.sum_cons] at h2
      split
      · refine ⟨fun b hb => ?_, ?_⟩
        · rcases List.mem_cons.mp hb with rfl | z
          · refine ⟨List.mem_cons_self, ?_, ?_⟩
            · show 1 ≤ n + 1
              have := hq.2.1
              simp only at this
              omega
            · have := hq.2.2
              simp only [List.length_cons] at this ⊢
              omega
          · have y := h1 b (List.mem_cons_of_mem _ z)
            refine ⟨List.mem_cons_of_mem _ y.1, y.2.1, ?_⟩
            have := y.2.2
            simp only [List.length_cons]
            omega
        · simp only [List.map_cons, List.sum_cons, List.length_cons]
          have := hq.2.1
          simp only at this
          omega
      · refine ⟨fun b hb => ?_, ?_⟩
        · rcases List.mem_cons.mp hb with rfl | z
          · exact ⟨List.mem_cons_self, Int.le_refl 1, by simp only [List.length_cons]; omega⟩
          · have y := h1 b z
            refine ⟨List.mem_cons_of_mem _ y.1, y.2.1, ?_⟩
            have := y.2.2
            simp only [List.length_cons]
            omega
        · simp only [List.map_cons, List.sum_cons, List.length_cons]
          omega
end BB
end
section
/-! The runs of a row, as the blocks tell them and as the boxes tell them. -/
namespace BB
set_option linter.unusedVariables false
def rg (a : Int) (n : Nat) : List Int := (List.range n).map fun (i : Nat) => a + (i : Int)
theorem rg_len (a : Int) (n : Nat) : (rg a n).length = n := by unfold rg; rw [List.length_map, List.length_range]
theorem rg_succ (a : Int) (n : Nat) : rg a (n + 1) = a :: rg (a + 1) n := by
  unfold rg
  rw [List.range_succ_eq_map, List.map_cons, List.map_map]
  congr 1
  · omega
  · exact List.map_congr_left fun i _ => by show a + ((i + 1 : Nat) : Int) = a + 1 + (i : Int); omega
theorem rg_take (a : Int) (n m : Nat) : (rg a n).take m = rg a (min m n) := by
  unfold rg
  rw [← List.map_take, List.take_range]
theorem rg_mem {a x : Int} {n : Nat} (h : x ∈ rg a n) : a ≤ x ∧ x < a + (n : Int) := by
  obtain ⟨i, hi, rfl⟩ := List.mem_map.mp h
  have := List.mem_range.mp hi
  omega
/-- runs by the row, no empty run longer than c -/
def lr (c : Nat) : List Int → List (List Int)
  | [] => []
  | [p] => [[p], rg (p + 1) c]
  | p :: q :: r => if q = p + 1 then (match lr c (q :: r) with
      | s :: R => (p :: s) :: R
      | [] => []) else [p] :: rg (p + 1) (min c (q - p - 1).toNat) :: lr c (q :: r)
/-- runs by the blocks -/
def pr (c : Nat) : List (Int × Int) → List (List Int)
  | [] => []
  | [(f, m)] => [rg f m.toNat, rg (f + m) c]
  | (f, m) :: (f', m') :: r => rg f m.toNat :: rg (f + m) (min c (f' - f - m).toNat) :: pr c ((f', m') :: r)
theorem pr_head (c : Nat) (f m : Int) (r : List (Int × Int)) : ∃ R, pr c ((f, m) :: r) = rg f m.toNat :: R ∧ ∀ f0 m0 : Int, f = f0 + 1 → m0 = m + 1 → 0 ≤ m → pr c ((f0, m0) :: r) = (f0 :: rg f m.toNat) :: R := by
  cases r with
  | nil =>
    refine ⟨_, rfl, fun f0 m0 e1 e2 h => ?_⟩
    show [rg f0 m0.toNat, rg (f0 + m0) c] = _
    subst e1 e2
    rw [show (m + 1).toNat = m.toNat + 1 by omega, rg_succ, show f0 + (m + 1) = f0 + 1 + m by omega]
  | cons b r =>
    obtain ⟨f', m'⟩ := b
    refine ⟨_, rfl, fun f0 m0 e1 e2 h => ?_⟩
    show rg f0 m0.toNat :: rg (f0 + m0) (min c (f' - f0 - m0).toNat) :: _ = _
    subst e1 e2
    rw [show (m + 1).toNat = m.toNat + 1 by omega, rg_succ, show f0 + (m + 1) = f0 + 1 + m by omega, show f' - f0 - (m + 1) = f' - (f0 + 1) - m by omega]
theorem pr_blk (c : Nat) : ∀ row : List Int, pr c (blk row) = lr c row
  | [] => rfl
  | [p] => by
    show [rg p (1 : Int).toNat, rg (p + 1) c] = [[p], rg (p + 1) c]
    rw [show (1 : Int).toNat = 0 + 1 from rfl, rg_succ]
    rfl
  | p :: q :: r => by
    have ih := pr_blk c (q :: r)
    obtain ⟨n, t, e⟩ := blk_head (p := q) (r := r)
    have n1 : 1 ≤ n := ((blk_all (q :: r)).1 (q, n) (by rw [e]; exact List.mem_cons_self)).2.1
    rw [e] at ih
    have eb : blk (p :: q :: r) = if q = p + 1 then (p, n + 1) :: t else (p, 1) :: (q, n) :: t := by
      conv => lhs; unfold blk
      rw [e]
    obtain ⟨R, h1, h2⟩ := pr_head c q n t
    rw [eb]
    unfold lr
    by_cases z : q = p + 1
    · rw [if_pos z, if_pos z, h2 p (n + 1) z rfl (by omega), ← ih, h1]
    · rw [if_neg z, if_neg z, ← ih]
      show rg p (1 : Int).toNat :: rg (p + 1) (min c (q - p - 1).toNat) :: _ = _
      rw [show (1 : Int).toNat = 0 + 1 from rfl, rg_succ]
      rfl
theorem lr_head (c : Nat) (p : Int) (r : List Int) : ∃ s g R, lr c (p :: r) = s :: g :: R ∧ s ≠ [] := by
  induction r generalizing p with
  | nil => exact ⟨_, _, _, rfl, by simp⟩
  | cons q r ih =>
    obtain ⟨s, g, R, e, _⟩ := ih q
    unfold lr
    by_cases z : q = p + 1
    · rw [if_pos z, e]
      exact ⟨_, _, _, rfl, by simp⟩
    · rw [if_neg z]
      exact ⟨_, _, _, rfl, by simp⟩
theorem lr_in {c : Nat} {p q : Int} {r : List Int} (z : q = p + 1) : ∃ s g R, lr c (q :: r) = s :: g :: R ∧ lr c (p :: q :: r) = (p :: s) :: g :: R := by
  obtain ⟨s, g, R, e, _⟩ := lr_head c q r
  refine ⟨s, g, R, e, ?_⟩
  conv => lhs; unfold lr
  rw [if_pos z, e]
theorem lr_out {c : Nat} {p q : Int} {r : List Int} (z : q ≠ p + 1) : lr c (p :: q :: r) = [p] :: rg (p + 1) (min c (q - p - 1).toNat) :: lr c (q :: r) := by
  conv => lhs; unfold lr
  rw [if_neg z]
theorem lr_gd {c N : Nat} (hc : N + 1 ≤ c) : ∀ {row : List Int}, row.Pairwise (· < ·) → row.length ≤ N → (∀ r ∈ lr c row, r ≠ []) ∧ (lr c row).length % 2 = 0 ∧ bls true (lr c row) = row.length ∧ (row ≠ [] → N + 1 ≤ ((lr c row).getD ((lr c row).length - 1) []).length)
  | [], _, _ => ⟨(fun r h => by cases h), rfl, rfl, fun h => absurd rfl h⟩
  | [p], _, _ => by
    refine ⟨fun r h => ?_, by simp [lr], by simp [lr, bls], fun _ => ?_⟩
    · rcases List.mem_cons.mp h with z | z
      · rw [z]; simp
      · rw [List.mem_singleton.mp z]
        exact fun w => by have := congrArg List.length w; rw [rg_len] at this; simp at this; omega
    · show N + 1 ≤ (rg (p + 1) c).length
      rw [rg_len]
      exact hc
  | p :: q :: r, up, l => by
    obtain ⟨u1, u2⟩ := List.pairwise_cons.mp up
    have pq := u1 q List.mem_cons_self
    obtain ⟨i1, i2, i3, i4⟩ := lr_gd hc u2 (by simp only [List.length_cons] at l ⊢; omega)
    by_cases z : q = p + 1
    · obtain ⟨s, g, R, e1, e2⟩ := lr_in (c := c) (r := r) z
      rw [e1] at i1 i2 i3 i4
      rw [e2]
      refine ⟨fun x hx => ?_, i2, ?_, fun _ => ?_⟩
      · rcases List.mem_cons.mp hx with w | w
        · rw [w]; simp
        · exact i1 x (List.mem_cons_of_mem _ w)
      · have a : bls true (s :: g :: R) = s.length + bls false (g :: R) := rfl
        have b : bls true ((p :: s) :: g :: R) = (s.length + 1) + bls false (g :: R) := rfl
        rw [b]
        rw [a] at i3
        simp only [List.length_cons] at i3 ⊢
        omega
      · have := i4 (by simp)
        rw [show s :: g :: R = [s] ++ g :: R from rfl, last_app [] [s] (by simp)] at this
        rw [show (p :: s) :: g :: R = [p :: s] ++ g :: R from rfl, last_app [] [p :: s] (by simp)]
        exact this
    · rw [lr_out z]
      have ne : lr c (q :: r) ≠ [] := by obtain ⟨s, g, R, e, _⟩ := lr_head c q r; rw [e]; simp
      refine ⟨fun x hx => ?_, ?_, ?_, fun _ => ?_⟩
      · rcases List.mem_cons.mp hx with w | w
        · rw [w]; simp
        · rcases List.mem_cons.mp w with v | v
          · rw [v]
            exact fun w => by have := congrArg List.length w; rw [rg_len] at this; simp only [List.length_nil] at this; omega
          · exact i1 x v
      · simp only [List.length_cons]; omega
      · show 1 + (0 + bls true (lr c (q :: r))) = _
        rw [i3]
        simp only [List.length_cons]
        omega
      · rw [show [p] :: rg (p + 1) (min c (q - p - 1).toNat) :: lr c (q :: r) = [[p], rg (p + 1) (min c (q - p - 1).toNat)] ++ lr c (q :: r) from rfl, last_app [] _ ne]
        exact i4 (by simp)
theorem lr_good {c : Nat} {row : List Int} (hc : row.length + 1 ≤ c) (up : row.Pairwise (· < ·)) : Gd row.length (lr c row) := by
  obtain ⟨h1, h2, h3, h4⟩ := lr_gd hc up (Nat.le_refl _)
  refine ⟨h1, h2, by omega, fun h => h4 fun z => h ?_⟩
  rw [z]
  rfl
theorem lr_ag {c d m : Nat} (hc : m ≤ c) (hd : m ≤ d) : ∀ row : List Int, Ag m true (lr c row) (lr d row)
  | [] => trivial
  | [p] => ⟨ag1_t.mpr rfl, ag1_f.mpr (by rw [rg_take, rg_take, Nat.min_eq_left hc, Nat.min_eq_left hd]), trivial⟩
  | p :: q :: r => by
    have ih := lr_ag hc hd (q :: r)
    by_cases z : q = p + 1
    · obtain ⟨s, g, R, e1, e2⟩ := lr_in (c := c) (r := r) z
      obtain ⟨s', g', R', e1', e2'⟩ := lr_in (c := d) (r := r) z
      rw [e1, e1'] at ih
      rw [e2, e2']
      exact ⟨ag1_t.mpr (by rw [ag1_t.mp ih.1]), ih.2⟩
    · rw [lr_out z, lr_out z]
      exact ⟨ag1_t.mpr rfl, ag1_f.mpr (by rw [rg_take, rg_take]; congr 1; omega), ih⟩
/-- the boxes of a row -/
def lbx : List Int → List (Int × Bool)
  | [] => []
  | [p] => (p, true) :: (rg (p + 1) 25).map fun x => (x, false)
  | p :: q :: r => (p, true) :: ((rg (p + 1) (min 25 (q - p - 1).toNat)).map fun x => (x, false)) ++ lbx (q :: r)
theorem lbx_is : ∀ row : List Int, lbx row = fl true (lr 25 row)
  | [] => rfl
  | [p] => by show _ = (p, true) :: (((rg (p + 1) 25).map fun x => (x, false)) ++ []); rw [List.append_nil]; rfl
  | p :: q :: r => by
    have ih := lbx_is (q :: r)
    by_cases z : q = p + 1
    · obtain ⟨s, g, R, e1, e2⟩ := lr_in (c := 25) (r := r) z
      rw [e1] at ih
      rw [e2]
      show (p, true) :: ((rg (p + 1) (min 25 (q - p - 1).toNat)).map fun x => (x, false)) ++ lbx (q :: r) = (p, true) :: (s.map fun x => (x, true)) ++ fl false (g :: R)
      rw [ih, show (q - p - 1).toNat = 0 by omega, show min 25 0 = 0 from rfl]
      rfl
    · rw [lr_out z]
      show (p, true) :: ((rg (p + 1) (min 25 (q - p - 1).toNat)).map fun x => (x, false)) ++ lbx (q :: r) = (p, true) :: (((rg (p + 1) (min 25 (q - p - 1).toNat)).map fun x => (x, false)) ++ fl true (lr 25 (q :: r)))
      rw [ih]
      simp
theorem lbx_up : ∀ {row : List Int}, row.Pairwise (· < ·) → ((lbx row).map (·.1)).Pairwise (· < ·) ∧ ∀ p r, row = p :: r → ∀ x ∈ (lbx row).map (·.1), p ≤ x
  | [], _ => ⟨.nil, fun p r h => by cases h⟩
  | [p], _ => by
    have e : (lbx [p]).map (·.1) = p :: rg (p + 1) 25 := by
      show p :: ((rg (p + 1) 25).map fun x => (x, false)).map (·.1) = _
      rw [List.map_map]
      exact congrArg (p :: ·) ((List.map_congr_left fun _ _ => rfl).trans (List.map_id _))
    rw [e]
    refine ⟨List.pairwise_cons.mpr ⟨fun x hx => by have := rg_mem hx; omega, ?_⟩, fun p' r h x hx => ?_⟩
    · unfold rg
      exact List.pairwise_map.mpr (List.pairwise_lt_range.imp fun h => by omega)
    · cases h
      rcases List.mem_cons.mp hx with z | z
      · omega
      · have := rg_mem z; omega
  | p :: q :: r, up => by
    obtain ⟨u1, u2⟩ := List.pairwise_cons.mp up
    have pq := u1 q List.mem_cons_self
    obtain ⟨i1, i2⟩ := lbx_up u2
    have i2 := i2 q r rfl
    have e : (lbx (p :: q :: r)).map (·.1) = p :: (rg (p + 1) (min 25 (q - p - 1).toNat) ++ (lbx (q :: r)).map (·.1)) := by
      show ((p, true) :: ((rg (p + 1) (min 25 (q - p - 1).toNat)).map fun x => (x, false)) ++ lbx (q :: r)).map (·.1) = _
      rw [List.map_append, List.map_cons, List.map_map]
      have mm : (rg (p + 1) (min 25 (q - p - 1).toNat)).map ((fun x => x.fst) ∘ fun x => (x, false)) = rg (p + 1) (min 25 (q - p - 1).toNat) := (List.map_congr_left fun _ _ => rfl).trans (List.map_id _)
      rw [mm]
      rfl
    rw [e]
    have g1 : ∀ x ∈ rg (p + 1) (min 25 (q - p - 1).toNat), p < x ∧ x < q := fun x hx => by have := rg_mem hx; omega
    refine ⟨List.pairwise_cons.mpr ⟨fun x hx => ?_, List.pairwise_append.mpr ⟨?_, i1, fun x hx y hy => ?_⟩⟩, fun p' r' h x hx => ?_⟩
    · rcases List.mem_append.mp hx with z | z
      · exact (g1 x z).1
      · have := i2 x z; omega
    · unfold rg
      exact List.pairwise_map.mpr (List.pairwise_lt_range.imp fun h => by omega)
    · have := g1 x hx
      have := i2 y hy
      omega
    · cases h
      rcases List.mem_cons.mp hx with z | z
      · omega
      · rcases List.mem_append.mp z with w | w
        · have := g1 x w; omega
        · have := i2 x w; omega
/-- what is told of a row and what is due are the same -/
theorem waves_due {row : List Int} (up : row.Pairwise (· < ·)) (l : row.length ≤ 12) (n : Nat) : wvs n (pr (row.length + 1) (blk row)) = wvs n (lr 25 row) := by
  rw [pr_blk]
  exact wvs_ag n row.length _ _ (lr_good (Nat.le_refl _) up) (lr_good (by omega) up) (lr_ag (Nat.le_refl _) (by omega) row)
end BB
end
section
namespace K33
open PySem PySem.Spec PyProof.Rows L2
set_option maxHeartbeats 4000000
set_option Elab.async false
set_option linter.unusedVariables false
def top (i : Nat) : Stmt := PySem.Challenge.pw_boxballs_k33_waves.main.body.getD i (.Pass ⟨0, 0, 0, 0⟩)
abbrev s_blocks_in : Stmt := top 1
theorem sc_blocks_in : FnScope ["row", "firsts", "lasts"] ["row"] (defScope s_blocks_in) := ⟨rfl, rfl, rfl, by decide +kernel, rfl, by decide +kernel, by decide +kernel⟩
abbrev s_runs_in : Stmt := top 3
theorem sc_runs_in : FnScope ["row", "found", "starts", "runs", "at", "first", "many", "behind", "end"] ["row"] (defScope s_runs_in) := ⟨rfl, rfl, rfl, by decide +kernel, rfl, by decide +kernel, by decide +kernel⟩
abbrev s_first_short : Stmt := top 4
theorem sc_first_short : FnScope ["runs", "at"] ["runs"] (defScope s_first_short) := ⟨rfl, rfl, rfl, by decide +kernel, rfl, by decide +kernel, by decide +kernel⟩
abbrev s_without_wave : Stmt := top 5
theorem sc_without_wave : FnScope ["runs", "at", "rest"] ["runs", "at"] (defScope s_without_wave) := ⟨rfl, rfl, rfl, by decide +kernel, rfl, by decide +kernel, by decide +kernel⟩
abbrev s_waves : Stmt := top 6
theorem sc_waves : FnScope ["row", "told", "runs", "at", "short", "behind"] ["row"] (defScope s_waves) := ⟨rfl, rfl, rfl, by decide +kernel, rfl, by decide +kernel, by decide +kernel⟩
abbrev s_L_cell_at : Stmt := top 8
theorem sc_L_cell_at : FnScope ["_law_script", "_law_k"] ["_law_script", "_law_k"] (defScope s_L_cell_at) := ⟨rfl, rfl, rfl, by decide +kernel, rfl, by decide +kernel, by decide +kernel⟩
abbrev s_L_state : Stmt := top 9
theorem sc_L_state : FnScope ["_law_script", "_law_k", "_law_cell"] ["_law_script", "_law_k"] (defScope s_L_state) := ⟨rfl, rfl, rfl, by decide +kernel, rfl, by decide +kernel, by decide +kernel⟩
abbrev s_L_take : Stmt := top 10
theorem sc_L_take : FnScope ["_law_state_here", "_law_many", "_law_found", "_law_mixed"] ["_law_state_here", "_law_many"] (defScope s_L_take) := ⟨rfl, rfl, rfl, by decide +kernel, rfl, by decide +kernel, by decide +kernel⟩
abbrev s_L_row : Stmt := top 11
theorem sc_L_row : FnScope ["_law_state_here", "_law_gaps", "_law_found", "_law_place", "_law_turn", "_law_size", "_law_ball"] ["_law_state_here", "_law_gaps"] (defScope s_L_row) := ⟨rfl, rfl, rfl, by decide +kernel, rfl, by decide +kernel, by decide +kernel⟩
abbrev s_L_far : Stmt := top 12
theorem sc_L_far : FnScope ["_law_state_here", "_law_row_here", "_law_kind", "_law_far_here", "_law_at"] ["_law_state_here", "_law_row_here"] (defScope s_L_far) := ⟨rfl, rfl, rfl, by decide +kernel, rfl, by decide +kernel, by decide +kernel⟩
abbrev s_L_same : Stmt := top 13
theorem sc_L_same : FnScope ["_law_found", "_law_due_here"] ["_law_found", "_law_due_here"] (defScope s_L_same) := ⟨rfl, rfl, rfl, by decide +kernel, rfl, by decide +kernel, by decide +kernel⟩
abbrev s_L_boxes : Stmt := top 14
theorem sc_L_boxes : FnScope ["_law_row_here", "_law_found", "_law_k", "_law_gap"] ["_law_row_here"] (defScope s_L_boxes) := ⟨rfl, rfl, rfl, by decide +kernel, rfl, by decide +kernel, by decide +kernel⟩
abbrev s_L_runs : Stmt := top 15
theorem sc_L_runs : FnScope ["_law_boxes_here", "_law_found", "_law_place", "_law_ball"] ["_law_boxes_here"] (defScope s_L_runs) := ⟨rfl, rfl, rfl, by decide +kernel, rfl, by decide +kernel, by decide +kernel⟩
abbrev s_L_due : Stmt := top 16
theorem sc_L_due : FnScope ["_law_row_here", "_law_boxes_here", "_law_found", "_law_runs_here", "_law_at", "_law_many", "_law_wave", "_law_gone"] ["_law_row_here"] (defScope s_L_due) := ⟨rfl, rfl, rfl, by decide +kernel, rfl, by decide +kernel, by decide +kernel⟩
abbrev s_law : Stmt := top 17
theorem sc_law : FnScope ["_law_script", "_law_k", "_law_state_here", "_law_row_here", "_law_some", "_law_turn", "_law_found"] ["_law_script"] (defScope s_law) := ⟨rfl, rfl, rfl, by decide +kernel, rfl, by decide +kernel, by decide +kernel⟩
/-! ### the draws -/
def Dok (x : Int) (b : Bool) : Prop := 0 ≤ x ∧ (b = false → x < 2147483647)
def StAt (H : Hp) (a : Addr) (x : Int) (b : Bool) : Prop := H a = some (.lst [.int x, .bl b]) ∧ Dok x b
/-- all but what stands at a is as it was -/
def Keep (a : Addr) (H H' : Hp) : Prop := ∀ c o, c ≠ a → H c = some o → H' c = some o
theorem at_ints {ns : List Int} {k : Int} (h0 : 0 ≤ k) (h1 : k < (ns.length : Int)) : ∃ v : Int, atI (ns.map V.int) k = some (.int v) ∧ ns[k.toNat]? = some v := by
  have hk : k.toNat < ns.length := by omega
  have ek : ((k.toNat : Nat) : Int) = k := by omega
  refine ⟨ns[k.toNat], ?_, List.getElem?_eq_getElem hk⟩
  have q : atI (ns.map V.int) ((k.toNat : Nat) : Int) = some (.int ns[k.toNat]) := atI_nat (by rw [List.getElem?_map, List.getElem?_eq_getElem hk] <;> rfl)
  rw [ek] at q
  exact q
def spCell (K : PySem.W.Frag) : Sp := fun vs H Q _ => ∃ (a : Addr) (ns : List Int) (k : Int), vs = [.ref a, .int k] ∧ SqL K H a (ns.map V.int) ∧ 0 ≤ k ∧ ∀ c : Int, Q (.int c) H
def spState (K : PySem.W.Frag) : Sp := fun vs H Q _ => ∃ (a : Addr) (ns : List Int) (k : Int), vs = [.ref a, .int k] ∧ SqL K H a (ns.map V.int) ∧ 0 ≤ k ∧
  ∀ (r : Addr) (x : Int) (b : Bool), H r = none → Dok x b → Q (.ref r) (upd H r (.lst [.int x, .bl b]))
def spTake (K : PySem.W.Frag) : Sp := fun vs H Q _ => ∃ (a : Addr) (x : Int) (b : Bool) (m : Int), vs = [.ref a, .int m] ∧ StAt H a x b ∧ 0 < m ∧ m < 1073741824 ∧
  ∀ (v x' : Int), 0 ≤ v → v < m → Dok x' b → Q (.int v) (upd H a (.lst [.int x', .bl b]))
section
variable {P : Program} {w : World} {K : PySem.W.Frag} {mg : Str → Option Value} {base : Heap}
set_option maxRecDepth 100000 in
theorem ok_L_cell_at {f : Addr} {fd : FuncData} (F : Fun K "_law_cell_at" "_law_cell_at" s_L_cell_at f fd) (nb : Nb mg)   :
    FnOk P w K mg base CX0 1 f fd ["_law_script", "_law_k"] (spCell K) := by
  have nd := sc_L_cell_at.nd
  refine F.ok (k := 0) sc_L_cell_at (fun vs H Q E h => ?_) (fun cdv A outer s H vs Q E hr h => ?_)
  · obtain ⟨a, ns, k, rfl, _⟩ := h
    rfl
  obtain ⟨a, ns, k, rfl, hS, h0, q⟩ := h
  refine ⟨_, (pss_cons (ps_if (pt_cmpR op_lt (pv 1) (pe_callB call_len_seq rfl nb.len PySem.boot_len (pa_cons (pv 0) pa_nil)) (nomark _))
   (pss_one (ps_ret (pe_ix ix_list (pv 0) (pv 1) (fun _ _ => rfl))))
   pss_nil)
  (pss_one (ps_ret pe_int))), ?_⟩
  refine ⟨_, rfl, _, rfl, a, _, rfl, .inl hS, _, _, rfl, rfl, _, rfl, ?_⟩
  refine ite2 (fun c => ?_) (fun c => ?_)
  · have c' : k < (((ns.map V.int).length : Nat) : Int) := of_decide_eq_true c
    rw [List.length_map] at c'
    obtain ⟨v, q1, _⟩ := at_ints h0 c'
    exact ⟨_, rfl, _, rfl, a, _, _, _, rfl, rfl, hS, q1, q _⟩
  · exact q 0
set_option maxRecDepth 100000 in
theorem ok_L_state {f : Addr} {fd : FuncData} (F : Fun K "_law_state" "_law_state" s_L_state f fd) (nb : Nb mg) (h_L_cell_at : Has P w K mg base 1 "_law_cell_at" ["_law_script", "_law_k"] (spCell K))  :
    FnOk P w K mg base CX0 2 f fd ["_law_script", "_law_k"] (spState K) := by
  have nd := sc_L_state.nd
  refine F.ok (k := 1) sc_L_state (fun vs H Q E h => ?_) (fun cdv A outer s H vs Q E hr h => ?_)
  · obtain ⟨a, ns, k, rfl, _⟩ := h
    rfl
  obtain ⟨a, ns, k, rfl, hS, h0, q⟩ := h
  refine ⟨_, (pss_cons (ps_set (i := 2) nd rfl (Or.inl rfl) (pe_def h_L_cell_at hr (pa_cons (pv 0) (pa_cons (pv 1) pa_nil))))
  (pss_cons (ps_if (pt_cmpR op_ge (pv 2) (pe_op op_pow pe_int pe_int) (nomark _))
   (pss_one (ps_ret (pe_lst (pa_cons (pe_op op_sub (pv 2) (pe_op op_pow pe_int pe_int)) (pa_cons pe_bl pa_nil)))))
   pss_nil)
  (pss_one (ps_ret (pe_lst (pa_cons (pe_op op_mod (pv 2) pe_int) (pa_cons pe_bl pa_nil))))))), ?_⟩
  refine ⟨_, rfl, _, rfl, a, ns, k, rfl, hS, h0, fun c => ?_⟩
  refine ⟨_, rfl, _, _, rfl, rfl, ⟨by decide, by decide, by decide⟩, _, _, rfl, rfl, _, rfl, ?_⟩
  refine ite2 (fun z => ?_) (fun z => ?_)
  · have z' : (10 : Int) ^ 18 ≤ c := of_decide_eq_true z
    refine ⟨_, rfl, _, _, rfl, rfl, ⟨by decide, by decide, by decide⟩, _, _, rfl, rfl, (by show 2 ≤ sizeLine; decide), fun r hr' => q r _ true hr' ⟨?_, fun e => by cases e⟩⟩
    show (0 : Int) ≤ c - 10 ^ 18
    omega
  · refine ⟨_, rfl, _, _, rfl, rfl, (by show (0 : Int) < 2147483647; decide), (by show 2 ≤ sizeLine; decide), fun r hr' => q r _ false hr' ⟨?_, fun _ => ?_⟩⟩
    · exact Int.emod_nonneg _ (by decide)
    · exact Int.emod_lt_of_pos _ (by decide)
set_option maxRecDepth 100000 in
theorem ok_L_take {f : Addr} {fd : FuncData} (F : Fun K "_law_take" "_law_take" s_L_take f fd) (nb : Nb mg)   :
    FnOk P w K mg base CX0 1 f fd ["_law_state_here", "_law_many"] (spTake K) := by
  have nd := sc_L_take.nd
  refine F.ok (k := 0) sc_L_take (fun vs H Q E h => ?_) (fun cdv A outer s H vs Q E hr h => ?_)
  · obtain ⟨a, x, b, m, rfl, _⟩ := h
    rfl
  obtain ⟨a, x, b, m, rfl, ⟨hS, d0, d1⟩, m0, m1, q⟩ := h
  refine ⟨_, (pss_cons (ps_if (pt_truth (pe_ix ix_list (pv 0) pe_int (fun _ _ => rfl)) (fun _ => rfl))
   (pss_cons (ps_set (i := 2) nd rfl (Or.inl rfl) (pe_op op_mod (pe_ix ix_list (pv 0) pe_int (fun _ _ => rfl)) (pv 1)))
  (pss_cons (ps_asg (pe_op op_fdiv (pe_ix ix_list (pv 0) pe_int (fun _ _ => rfl)) (pv 1)) (pg_sub (pv 0) pe_int set_list))
  (pss_one (ps_ret (pv 2)))))
   pss_nil)
  (pss_cons (ps_asg (pe_op op_mod (pe_op op_add (pe_op op_mul (pe_ix ix_list (pv 0) pe_int (fun _ _ => rfl)) pe_int) pe_int) pe_int) (pg_sub (pv 0) pe_int set_list))
  (pss_cons (ps_set (i := 3) nd rfl (Or.inl rfl) (pe_op op_mod (pe_op op_add (pe_op op_add (pe_op op_mul (pe_ix ix_list (pv 0) pe_int (fun _ _ => rfl)) (pe_ix ix_list (pv 0) pe_int (fun _ _ => rfl))) (pe_op op_mul pe_int (pe_ix ix_list (pv 0) pe_int (fun _ _ => rfl)))) pe_int) pe_int))
  (pss_cons (ps_set (i := 3) nd rfl (Or.inl rfl) (pe_op op_mod (pe_op op_add (pe_op op_mul (pv 3) (pv 3)) (pe_op op_mul pe_int (pv 3))) pe_int))
  (pss_one (ps_ret (pe_op op_mod (pe_op op_fdiv (pv 3) pe_int) (pv 1)))))))), ?_⟩
  refine ⟨_, rfl, a, _, _, _, rfl, rfl, SqL.of hS, rfl, b, rfl, ?_⟩
  cases b with
  | true =>
    refine iteT ?_
    refine ⟨_, rfl, a, _, _, _, rfl, rfl, SqL.of hS, rfl, _, rfl, _, _, rfl, rfl, m0, ?_⟩
    refine ⟨_, rfl, a, _, _, _, rfl, rfl, SqL.of hS, rfl, _, rfl, _, _, rfl, rfl, ⟨m0, m1⟩, ?_⟩
    refine ⟨_, rfl, a, _, _, 0, rfl, rfl, hS, rfl, ?_⟩
    refine ⟨_, rfl, ?_⟩
    exact q _ _ (Int.emod_nonneg _ (by omega)) (Int.emod_lt_of_pos _ m0) ⟨Int.ediv_nonneg d0 (by omega), fun e => by cases e⟩
  | false =>
    refine iteF ?_
    have d2 := d1 rfl
    refine ⟨_, rfl, a, _, _, _, rfl, rfl, SqL.of hS, rfl, _, _, rfl, rfl, .inl ⟨by omega, by omega⟩, _, _, rfl, rfl, _, _, rfl, rfl, (by show (0 : Int) < 2147483647; decide), ?_⟩
    refine ⟨_, rfl, a, _, _, 0, rfl, rfl, hS, rfl, ?_⟩
    have e0 : (0 : Int) ≤ (x * 48271 + 29) % 2147483647 := Int.emod_nonneg _ (by decide)
    have e1 : (x * 48271 + 29) % 2147483647 < 2147483647 := Int.emod_lt_of_pos _ (by decide)
    refine ⟨_, rfl, a, _, _, _, rfl, rfl, SqL.of upd_same, rfl, _, rfl, a, _, _, _, rfl, rfl, SqL.of upd_same, rfl, _, _, rfl, rfl, .inl ⟨by omega, by omega⟩, _, rfl, a, _, _, _, rfl, rfl, SqL.of upd_same, rfl, _, _, rfl, rfl, .inl ⟨by decide, by decide⟩, _, _, rfl, rfl, _, _, rfl, rfl, _, _, rfl, rfl, (by show (0 : Int) < 2147483629; decide), ?_⟩
    refine ⟨_, rfl, _, rfl, _, _, rfl, rfl, .inl ⟨?_, ?_⟩, _, rfl, _, _, rfl, rfl, .inl ⟨by decide, by decide⟩, _, _, rfl, rfl, _, _, rfl, rfl, (by show (0 : Int) < 2147483587; decide), ?_⟩
    · exact Int.lt_of_lt_of_le (by decide) (Int.emod_nonneg _ (by decide))
    · exact Int.lt_trans (Int.emod_lt_of_pos _ (by decide)) (by decide)
    refine ⟨_, rfl, _, _, rfl, rfl, ⟨by decide, by decide⟩, _, rfl, _, _, rfl, rfl, m0, ?_⟩
    exact q _ _ (Int.emod_nonneg _ (by omega)) (Int.emod_lt_of_pos _ m0) ⟨e0, fun _ => e1⟩
end
end K33
end
section
namespace K33
open PySem PySem.Spec PyProof.Rows L2
set_option maxHeartbeats 4000000
set_option Elab.async false
set_option linter.unusedVariables false
/-! ### numbers and rows -/
theorem cut_from (xs : List V) (k : Nat) : cutV xs (some (k : Int)) none = xs.drop k := by
  unfold cutV
  rw [HT.sIx_nat, HT.sIx_none]
  by_cases h : k ≤ xs.length
  · rw [Nat.min_eq_left h, List.take_of_length_le (by rw [List.length_drop]; exact Nat.le_refl _)]
  · rw [Nat.min_eq_right (by omega), List.drop_eq_nil_of_le (Nat.le_refl _), List.drop_eq_nil_of_le (by omega), List.take_nil]
theorem cut_to (xs : List V) (k : Nat) : cutV xs none (some (k : Int)) = xs.take k := by
  unfold cutV
  rw [HT.sIx_nat, HT.sIx_none, List.drop_zero, Nat.sub_zero]
  by_cases h : k ≤ xs.length
  · rw [Nat.min_eq_left h]
  · rw [Nat.min_eq_right (by omega), List.take_length, List.take_of_length_le (by omega)]
theorem getD_of {ns : List Int} {i : Nat} {v : Int} (h : (ns.map V.int)[i]? = some (.int v)) : ns.getD i 0 = v := by
  rw [List.getElem?_map] at h
  cases e : ns[i]? with
  | none => rw [e] at h; cases h
  | some z =>
    rw [e] at h
    have : z = v := by simpa using h
    rw [List.getD_eq_getElem?_getD, e, this]
    rfl
theorem int_at {ns : List Int} {i : Nat} {x : V} (h : (ns.map V.int)[i]? = some x) : ∃ v, x = .int v ∧ ns.getD i 0 = v := by
  have h' := h
  rw [List.getElem?_map] at h
  cases e : ns[i]? with
  | none => rw [e] at h; cases h
  | some z =>
    rw [e] at h
    have : x = .int z := by simpa using h.symm
    subst this
    exact ⟨z, rfl, getD_of h'⟩
section
variable {P : Program} {w : World} {K : PySem.W.Frag} {mg : Str → Option Value} {base : Heap}
end
end K33
end
section
namespace K33
open PySem PySem.Spec PyProof.Rows L2
set_option maxHeartbeats 4000000
set_option maxRecDepth 100000
set_option Elab.async false
set_option linter.unusedVariables false
theorem in_nums (b : Int) (ns : List Int) : inV (.int b) (ns.map V.int) = decide (b ∈ ns) := by
  unfold inV
  rw [List.any_map, Bool.eq_iff_iff, List.any_eq_true, decide_eq_true_iff]
  constructor
  · rintro ⟨x, hx, e⟩
    have e' : x = b := of_decide_eq_true e
    exact e' ▸ hx
  · intro h
    exact ⟨b, h, decide_eq_true (rfl : b = b)⟩
theorem flat_nums (ns : List Int) : (ns.map V.int).all flatV = true := by
  rw [List.all_map, List.all_eq_true]
  intro x _
  rfl
/-- an item of a list of ints -/
theorem num_at {ns : List Int} {i : Nat} {x : V} (h : (ns.map V.int)[i]? = some x) : x = .int (ns.getD i 0) := by
  rw [List.getElem?_map] at h
  cases e : ns[i]? with
  | none => rw [e] at h; cases h
  | some n =>
    rw [e] at h
    cases h
    rw [List.getD_eq_getElem?_getD, e]
    rfl
theorem firsts_of {row : List Int} (up : row.Pairwise (· < ·)) : (row.filter fun p => decide (p - 1 ∉ row)) = (BB.blk row).map (·.1) := by
  cases row with
  | nil => rfl
  | cons b r =>
    have u := List.pairwise_cons.mp up
    exact BB.blk_firsts u.2 b u.1
theorem lasts_of {row : List Int} (up : row.Pairwise (· < ·)) : (row.filter fun p => decide (p + 1 ∉ row)) = (BB.blk row).map fun q => q.1 + q.2 - 1 := by
  cases row with
  | nil => rfl
  | cons b r =>
    have u := List.pairwise_cons.mp up
    exact BB.blk_lasts u.2 b u.1
theorem blk_len : ∀ row : List Int, (BB.blk row).length ≤ row.length
  | [] => Nat.le_refl _
  | p :: r => by
    have ih := blk_len r
    unfold BB.blk
    split
    · simp
    · rename_i e
      rw [e] at ih
      split <;> simp only [List.length_cons] at ih ⊢ <;> omega
/-- a list of pairs -/
def Tps (H : Hp) (ys : List V) (bl : List (Int × Int)) : Prop := ys.length = bl.length ∧ ∀ (j : Nat) (b : Int × Int), bl[j]? = some b → ∃ p, ys[j]? = some (.ref p) ∧ H p = some (.tup [.int b.1, .int b.2])
theorem Tps.same {H H' : Hp} {ys : List V} {bl : List (Int × Int)} (t : Tps H ys bl) (s : Same H H') : Tps H' ys bl := ⟨t.1, fun j b e => let ⟨p, a, c⟩ := t.2 j b e; ⟨p, a, s _ _ c⟩⟩
def spBin : Sp := fun vs H Q _ => ∃ (a : Addr) (row : List Int), vs = [.ref a] ∧ H a = some (.tup (row.map V.int)) ∧ row.Pairwise (· < ·) ∧ row.length ≤ 12 ∧
  ∀ (r : Addr) (ys : List V) (H' : Hp), Same H H' → H' r = some (.lst ys) → Tps H' ys (BB.blk row) → Q (.ref r) H'
section
variable {P : Program} {w : World} {K : PySem.W.Frag} {mg : Str → Option Value} {base : Heap}
set_option maxRecDepth 100000 in
theorem ok_blocks_in {f : Addr} {fd : FuncData} (F : Fun K "blocks_in" "blocks_in" s_blocks_in f fd) (nb : Nb2 mg)   :
    FnOk P w K mg base CX0 1 f fd ["row"] spBin := by
  have nd := sc_blocks_in.nd
  refine F.ok (k := 0) sc_blocks_in (fun vs H Q E h => ?_) (fun cdv A outer s H vs Q E hr h => ?_)
  · obtain ⟨a, row, rfl, _⟩ := h
    rfl
  obtain ⟨a, row, rfl, ha, up, r12, q⟩ := h
  refine ⟨_, (pss_cons (ps_comp1 (ii := 1) nd rfl (Or.inl rfl) (sc := defScope s_blocks_in) (N0 := ["row", "firsts", "lasts"]) (N := ["row"]) (js := [0]) rfl rfl rfl (by exact ⟨rfl, by decide +kernel, by decide +kernel, by decide +kernel, rfl, rfl, by decide, by decide +kernel, by decide +kernel⟩) rfl
(pi_tup (pv 0))
(fun _ _ _ _ _ => by exact (pts_one (pt_cmpR (op_notInK K rfl) (pe_op op_sub (pv 0) pe_int) (pv 1) rfl)))
(fun _ _ _ _ _ => by exact (pv 0)))
(pss_cons (ps_comp1 (ii := 2) nd rfl (Or.inl rfl) (sc := defScope s_blocks_in) (N0 := ["row", "firsts", "lasts"]) (N := ["row"]) (js := [0]) rfl rfl rfl (by exact ⟨rfl, by decide +kernel, by decide +kernel, by decide +kernel, rfl, rfl, by decide, by decide +kernel, by decide +kernel⟩) rfl
(pi_tup (pv 0))
(fun _ _ _ _ _ => by exact (pts_one (pt_cmpR (op_notInK K rfl) (pe_op op_add (pv 0) pe_int) (pv 1) rfl)))
(fun _ _ _ _ _ => by exact (pv 0)))
(pss_one (ps_ret (pe_comp2 (sc := defScope s_blocks_in) (N0 := ["row", "firsts", "lasts"]) (N := []) (js := []) rfl rfl rfl (by exact ⟨rfl, by decide +kernel, by decide +kernel, by decide +kernel, rfl, rfl, by decide, by decide +kernel, by decide +kernel⟩) rfl rfl
(pi_zip false rfl nb.zip (pa_cons (pv 1) (pa_cons (pv 2) pa_nil)))
(fun _ _ _ _ _ => by exact pts_nil)
(fun _ _ _ _ _ => by exact (pe_tup (pa_cons (pv 0) (pa_cons (pe_op op_add (pe_op op_sub (pv 1) (pv 0)) pe_int) pa_nil))))))))), ?_⟩
  refine ⟨_, rfl, a, rfl, ⟨_, SqT.of (ha)⟩, fun D1 hD1 => ?_⟩
  refine comp_sel (row.map V.int).length (by rw [List.length_map, sizeLine_eq]; omega) (fun i => decide (row.getD i 0 - 1 ∉ row)) (fun i => .int (row.getD i 0)) (fun σ => ∃ o1, σ = [o1, some (.ref a)]) _ hD1 (by exact ⟨_, rfl⟩) (items_tup (ha)) (fun i x σ' H2 hi s2 im hσ R S hR hS => ?_) (fun H1 s1 hD1 => ?_)
  · obtain ⟨o1, rfl⟩ := hσ
    obtain rfl := num_at im
    refine ⟨_, rfl, _, _, rfl, rfl, _, rfl, a, _, rfl, .inr (SqT.of (s2 _ _ (ha))), rfl, flat_nums row, _, rfl, ?_⟩
    rw [in_nums, if_pos rfl]
    by_cases m : row.getD i 0 - 1 ∈ row
    · rw [decide_eq_true m]
      exact iteF (hS (decide_eq_false fun z => z m) _ _ ⟨_, rfl⟩ (Same.refl _))
    · rw [decide_eq_false m]
      exact iteT ⟨_, rfl, hR (decide_eq_true m) _ _ _ ⟨_, rfl⟩ (Same.refl _) rfl⟩
  rw [List.length_map, BB.sel_list 0 row (fun p => decide (p - 1 ∉ row)) V.int] at hD1
  have hF : H1 D1 = some (.lst (((BB.blk row).map (·.1)).map V.int)) := by rw [← firsts_of up]; exact hD1
  refine ⟨_, rfl, a, rfl, ⟨_, SqT.of (s1 _ _ ha)⟩, fun D2 hD2 => ?_⟩
  refine comp_sel (row.map V.int).length (by rw [List.length_map, sizeLine_eq]; omega) (fun i => decide (row.getD i 0 + 1 ∉ row)) (fun i => .int (row.getD i 0)) (fun σ => ∃ o1, σ = [o1, some (.ref a)]) _ hD2 (by exact ⟨_, rfl⟩) (items_tup (s1 _ _ ha)) (fun i x σ' H2 hi s2 im hσ R S hR hS => ?_) (fun H3 s3 hD3 => ?_)
  · obtain ⟨o1, rfl⟩ := hσ
    obtain rfl := num_at im
    refine ⟨_, rfl, _, _, rfl, rfl, _, rfl, a, _, rfl, .inr (SqT.of (s2 _ _ (s1 _ _ ha))), rfl, flat_nums row, _, rfl, ?_⟩
    rw [in_nums, if_pos rfl]
    by_cases m : row.getD i 0 + 1 ∈ row
    · rw [decide_eq_true m]
      exact iteF (hS (decide_eq_false fun z => z m) _ _ ⟨_, rfl⟩ (Same.refl _))
    · rw [decide_eq_false m]
      exact iteT ⟨_, rfl, hR (decide_eq_true m) _ _ _ ⟨_, rfl⟩ (Same.refl _) rfl⟩
  rw [List.length_map, BB.sel_list 0 row (fun p => decide (p + 1 ∉ row)) V.int] at hD3
  have hL : H3 D2 = some (.lst (((BB.blk row).map fun q => q.1 + q.2 - 1).map V.int)) := by rw [← lasts_of up]; exact hD3
  have hF3 := s3 _ _ hF
  have bl := blk_len row
  refine ⟨_, rfl, _, rfl, D1, D2, _, _, rfl, SqL.of hF3, SqL.of hL, fun D hD => ?_⟩
  have im := items_zipL (K := K) hF3 hL
  have hn : min (((BB.blk row).map (·.1)).map V.int).length (((BB.blk row).map fun q => q.1 + q.2 - 1).map V.int).length = (BB.blk row).length := by simp
  rw [hn] at im
  refine comp_tups (BB.blk row).length (by rw [sizeLine_eq]; omega) (fun i => [.int ((BB.blk row).getD i (0, 0)).1, .int ((BB.blk row).getD i (0, 0)).2]) (fun σ => ∃ o1 o2, σ = [o1, o2]) _ hD ⟨_, _, rfl⟩ im (fun i x σ' H4 hi s4 im' hσ R hR => ?_) (fun H' ys s' hD' ly hy => ?_)
  · obtain ⟨o1, o2, rfl⟩ := hσ
    obtain ⟨r, y, z, rfl, hr', hy, hz'⟩ := im'
    rw [List.getElem?_map, List.getElem?_map, List.getElem?_eq_getElem hi] at hy hz'
    obtain rfl : V.int (BB.blk row)[i].1 = y := Option.some.inj hy
    obtain rfl : V.int ((BB.blk row)[i].1 + (BB.blk row)[i].2 - 1) = z := Option.some.inj hz'
    refine ⟨r, _, rfl, SqT.of hr', rfl, _, _, rfl, _, _, rfl, rfl, ?_⟩
    refine ⟨_, rfl, _, rfl, _, rfl, _, _, rfl, rfl, _, _, rfl, rfl, (by show 2 ≤ sizeLine; decide), fun p hp => ?_⟩
    refine hR _ p _ ⟨_, _, rfl⟩ (same_new hp _) ?_
    rw [upd_same, List.getD_eq_getElem?_getD, List.getElem?_eq_getElem hi]
    show some (HO.tup [V.int (BB.blk row)[i].1, V.int ((BB.blk row)[i].1 + (BB.blk row)[i].2 - 1 - (BB.blk row)[i].1 + 1)]) = some (HO.tup [V.int (BB.blk row)[i].1, V.int (BB.blk row)[i].2])
    rw [show (BB.blk row)[i].1 + (BB.blk row)[i].2 - 1 - (BB.blk row)[i].1 + 1 = (BB.blk row)[i].2 by omega]
  · refine q D ys H' (s1.trans (s3.trans s')) hD' ⟨ly, fun j b e => ?_⟩
    have jl : j < ys.length := by rw [ly]; exact (List.getElem?_eq_some_iff.mp e).1
    obtain ⟨p, e1, e2⟩ := hy j _ (List.getElem?_eq_getElem jl)
    refine ⟨p, by rw [List.getElem?_eq_getElem jl, e1], ?_⟩
    rw [List.getD_eq_getElem?_getD, e] at e2
    exact e2
end
end K33
end
section
namespace K33
open PySem PySem.Spec PyProof.Rows L2
set_option maxHeartbeats 4000000
set_option maxRecDepth 100000
set_option Elab.async false
set_option linter.unusedVariables false
/-- a list of lists of ints -/
def Ls (H : Hp) (xs : List V) (R : List (List Int)) : Prop := xs.length = R.length ∧ ∀ (j : Nat) (r : List Int), R[j]? = some r → ∃ p, xs[j]? = some (.ref p) ∧ H p = some (.lst (r.map V.int))
theorem Ls.keep {H H' : Hp} {xs : List V} {R : List (List Int)} (t : Ls H xs R) (k : ∀ (j : Nat) p zs, xs[j]? = some (.ref p) → H p = some (.lst zs) → H' p = some (.lst zs)) : Ls H' xs R := ⟨t.1, fun j r e => let ⟨p, a, c⟩ := t.2 j r e; ⟨p, a, k j p _ a c⟩⟩
theorem Ls.same {H H' : Hp} {xs : List V} {R : List (List Int)} (t : Ls H xs R) (s : Same H H') : Ls H' xs R := t.keep fun _ _ _ _ c => s _ _ c
theorem Ls.snoc {H : Hp} {xs : List V} {R : List (List Int)} {p : Addr} {r : List Int} (t : Ls H xs R) (h : H p = some (.lst (r.map V.int))) : Ls H (xs ++ [.ref p]) (R ++ [r]) := by
  refine ⟨by rw [List.length_append, List.length_append, t.1]; rfl, fun j c e => ?_⟩
  by_cases z : j < R.length
  · rw [List.getElem?_append_left z] at e
    obtain ⟨q, e1, e2⟩ := t.2 j c e
    exact ⟨q, by rw [List.getElem?_append_left (by rw [t.1]; exact z)]; exact e1, e2⟩
  · have jl : j < (R ++ [r]).length := (List.getElem?_eq_some_iff.mp e).1
    have jj : j = R.length := by rw [List.length_append, List.length_singleton] at jl; omega
    subst jj
    rw [List.getElem?_append_right (Nat.le_refl _), Nat.sub_self] at e
    cases e
    exact ⟨p, by rw [← t.1, List.getElem?_append_right (Nat.le_refl _), Nat.sub_self]; rfl, h⟩
theorem Ls.get {H : Hp} {xs : List V} {R : List (List Int)} (t : Ls H xs R) {j : Nat} (h : j < R.length) : ∃ p, xs[j]? = some (.ref p) ∧ H p = some (.lst ((R.getD j []).map V.int)) := by
  obtain ⟨p, e1, e2⟩ := t.2 j _ (List.getElem?_eq_getElem h)
  exact ⟨p, e1, by rw [List.getD_eq_getElem?_getD, List.getElem?_eq_getElem h]; exact e2⟩
/-- how long the empty run behind a block is -/
def gapN (c : Nat) (bl : List (Int × Int)) (j : Nat) : Nat := match bl[j + 1]? with
  | some q => min c (q.1 - (bl.getD j (0, 0)).1 - (bl.getD j (0, 0)).2).toNat
  | none => c
def two (c : Nat) (bl : List (Int × Int)) (j : Nat) : List (List Int) := [BB.rg (bl.getD j (0, 0)).1 (bl.getD j (0, 0)).2.toNat, BB.rg ((bl.getD j (0, 0)).1 + (bl.getD j (0, 0)).2) (gapN c bl j)]
def prI (c : Nat) (bl : List (Int × Int)) (i : Nat) : List (List Int) := (List.range i).flatMap (two c bl)
theorem prI_succ (c : Nat) (bl : List (Int × Int)) (i : Nat) : prI c bl (i + 1) = prI c bl i ++ two c bl i := by
  unfold prI
  rw [List.range_succ, List.flatMap_append]
  simp
theorem prI_len (c : Nat) (bl : List (Int × Int)) : ∀ i, (prI c bl i).length = 2 * i
  | 0 => rfl
  | i + 1 => by rw [prI_succ, List.length_append, prI_len c bl i]; show 2 * i + 2 = _; omega
theorem prI_all (c : Nat) : ∀ bl : List (Int × Int), prI c bl bl.length = BB.pr c bl
  | [] => rfl
  | [(f, m)] => by
    show (List.range 1).flatMap _ = _
    rw [show List.range 1 = [0] from rfl]
    rfl
  | (f, m) :: (f', m') :: r => by
    have ih := prI_all c ((f', m') :: r)
    unfold prI at ih ⊢
    rw [show ((f, m) :: (f', m') :: r).length = ((f', m') :: r).length + 1 from rfl, List.range_succ_eq_map, List.flatMap_cons, List.flatMap_map]
    show two c ((f, m) :: (f', m') :: r) 0 ++ (List.range ((f', m') :: r).length).flatMap (two c ((f', m') :: r)) = _
    rw [ih]
    rfl
theorem cut_one (xs : List V) (k : Nat) : cutV xs (some (k : Int)) (some ((k + 1 : Nat) : Int)) = (xs.drop k).take 1 := by
  unfold cutV
  rw [HT.sIx_nat, HT.sIx_nat]
  by_cases h : k < xs.length
  · rw [Nat.min_eq_left (by omega), Nat.min_eq_left (by omega), Nat.add_sub_cancel_left]
  · rw [Nat.min_eq_right (by omega), Nat.min_eq_right (by omega), Nat.sub_self, List.take_zero, List.drop_eq_nil_of_le (by omega), List.take_nil]
theorem end_is {bl : List (Int × Int)} {i N : Nat} {m : Int} (hm : m ∈ ((bl.getD i (0, 0)).1 + (bl.getD i (0, 0)).2 + (N : Int) + 1) :: ((bl.map (·.1)).drop (i + 1)).take 1) (hle : ∀ x ∈ ((bl.getD i (0, 0)).1 + (bl.getD i (0, 0)).2 + (N : Int) + 1) :: ((bl.map (·.1)).drop (i + 1)).take 1, m ≤ x) :
    (m - ((bl.getD i (0, 0)).1 + (bl.getD i (0, 0)).2)).toNat = gapN (N + 1) bl i := by
  unfold gapN
  cases e : bl[i + 1]? with
  | none =>
    have z : ((bl.map (·.1)).drop (i + 1)).take 1 = [] := by
      rw [List.drop_eq_nil_of_le (by rw [List.length_map]; exact List.getElem?_eq_none_iff.mp e), List.take_nil]
    rw [z, List.mem_singleton] at hm
    show _ = N + 1
    omega
  | some q =>
    have il := (List.getElem?_eq_some_iff.mp e).1
    have z : ((bl.map (·.1)).drop (i + 1)).take 1 = [q.1] := by
      rw [List.drop_eq_getElem_cons (by rw [List.length_map]; exact il)]
      have : (bl.map (·.1))[i + 1]'(by rw [List.length_map]; exact il) = q.1 := by
        rw [List.getElem_map]
        rw [List.getElem?_eq_getElem il] at e
        rw [Option.some.inj e]
      rw [this]
      rfl
    rw [z] at hm hle
    have h1 := hle _ List.mem_cons_self
    have h2 := hle q.1 (by simp)
    show _ = min (N + 1) (q.1 - (bl.getD i (0, 0)).1 - (bl.getD i (0, 0)).2).toNat
    rcases List.mem_cons.mp hm with w | w
    · omega
    · have := List.mem_singleton.mp w
      omega
def spRuns : Sp := fun vs H Q _ => ∃ (a : Addr) (row : List Int), vs = [.ref a] ∧ H a = some (.tup (row.map V.int)) ∧ row.Pairwise (· < ·) ∧ row.length ≤ 12 ∧ (∀ p ∈ row, -4000000000 ≤ p ∧ p ≤ 4000000000) ∧
  ∀ (r : Addr) (xs : List V) (H' : Hp), Same H H' → H' r = some (.lst xs) → Ls H' xs (BB.pr (row.length + 1) (BB.blk row)) → Q (.ref r) H'
def spFs : Sp := fun vs H Q _ => ∃ (a : Addr) (xs : List V) (R : List (List Int)), vs = [.ref a] ∧ H a = some (.lst xs) ∧ Ls H xs R ∧ BB.fs R + 1 < R.length ∧ (R.getD (BB.fs R) []).length ≤ (R.getD (BB.fs R + 1) []).length ∧
  ∀ H', Same H H' → Q (.int (BB.fs R : Int)) H'
theorem tps_get {H : Hp} {xs : List V} {bl : List (Int × Int)} (t : Tps H xs bl) {i : Nat} {x : V} (h : xs[i]? = some x) : ∃ (p : Addr) (b : Int × Int), x = .ref p ∧ bl[i]? = some b ∧ H p = some (.tup [.int b.1, .int b.2]) := by
  have il : i < bl.length := by rw [← t.1]; exact (List.getElem?_eq_some_iff.mp h).1
  obtain ⟨p, e1, e2⟩ := t.2 i _ (List.getElem?_eq_getElem il)
  rw [h] at e1
  exact ⟨p, _, Option.some.inj e1, List.getElem?_eq_getElem il, e2⟩
theorem getD_at {l : List (Int × Int)} {k : Nat} {b : Int × Int} (h : l[k]? = some b) : l.getD k (0, 0) = b := by rw [List.getD_eq_getElem?_getD, h]; rfl
theorem snoc2 {α : Type} (l : List α) (x y : α) : l ++ [x, y] = (l ++ [x]) ++ [y] := by simp
/-- a run is put to the runs -/
theorem app_run {H2 H : Hp} {U p l : Addr} {zs : List V} {R : List (List Int)} {r : List Int} {o : HO} (sm : Same H2 H) (u2 : H2 U = none) (hz : H U = some (.lst zs)) (ls : Ls H zs R) (hp : H p = none) (hl : (upd H p o) l = none) :
    (upd (upd H p o) l (.lst (r.map V.int))) U = some (.lst zs) ∧ Same H2 (upd (upd (upd H p o) l (.lst (r.map V.int))) U (.lst (zs ++ [.ref l]))) ∧ (upd (upd (upd H p o) l (.lst (r.map V.int))) U (.lst (zs ++ [.ref l]))) U = some (.lst (zs ++ [.ref l])) ∧
    Ls (upd (upd (upd H p o) l (.lst (r.map V.int))) U (.lst (zs ++ [.ref l]))) (zs ++ [.ref l]) (R ++ [r]) := by
  have k : Same H (upd (upd H p o) l (.lst (r.map V.int))) := (same_new hp o).trans (same_new hl _)
  have lU : l ≠ U := fun z => by
    rw [z, same_new hp o _ _ hz] at hl
    cases hl
  refine ⟨k _ _ hz, fun c o' e => ?_, upd_same, ?_⟩
  · rw [upd_ne (ne_of_none e u2)]
    exact k _ _ (sm _ _ e)
  · refine Ls.snoc (⟨ls.1, fun j r' e => ?_⟩ : Ls _ zs R) (by rw [upd_ne lU, upd_same])
    obtain ⟨q, e1, e2⟩ := ls.2 j r' e
    refine ⟨q, e1, ?_⟩
    rw [upd_ne (fun z => ?_)]
    · exact k _ _ e2
    · rw [z, hz] at e2
      have e3 : zs = r'.map V.int := HO.lst.inj (Option.some.inj e2)
      rw [e3, List.getElem?_map] at e1
      cases e4 : r'[j]? with
      | none => rw [e4] at e1; cases e1
      | some x => rw [e4] at e1; cases e1
structure NbE (mg : Str → Option Value) : Prop extends Nb3 mg where
  enum : mg "enumerate" = none
section
variable {P : Program} {w : World} {K : PySem.W.Frag} {mg : Str → Option Value} {base : Heap}
set_option maxRecDepth 100000 in
theorem ok_runs_in {f : Addr} {fd : FuncData} (F : Fun K "runs_in" "runs_in" s_runs_in f fd) (nb : NbE mg) (h_blocks_in : Has P w K mg base 1 "blocks_in" ["row"] spBin)  :
    FnOk P w K mg base CX0 2 f fd ["row"] spRuns := by
  have nd := sc_runs_in.nd
  refine F.ok (k := 1) sc_runs_in (fun vs H Q E h => ?_) (fun cdv A outer s H vs Q E hr h => ?_)
  · obtain ⟨a, row, rfl, _⟩ := h
    rfl
  obtain ⟨a, row, rfl, ha, up, r12, bd, q⟩ := h
  refine ⟨_, (pss_cons (ps_set (i := 1) nd rfl (Or.inl rfl) (pe_def h_blocks_in hr (pa_cons (pv 0) pa_nil)))
(pss_cons (ps_comp2 (ii := 2) nd rfl (Or.inl rfl) (sc := defScope s_runs_in) (N0 := ["row", "found", "starts", "runs", "at", "first", "many", "behind", "end"]) (N := []) (js := []) rfl rfl rfl (by exact ⟨rfl, by decide +kernel, by decide +kernel, by decide +kernel, rfl, rfl, by decide, by decide +kernel, by decide +kernel⟩) rfl rfl
(pi_list (pv 1))
(fun _ _ _ _ _ => by exact pts_nil)
(fun _ _ _ _ _ => by exact (pv 0)))
(pss_cons (ps_set (i := 3) nd rfl (Or.inl rfl) (pe_lst pa_nil))
(pss_cons (ps_for PassesOwn.never rfl (pi_enum rfl nb.enum (pa_cons (pv 1) pa_nil)) (pg_tup rfl (pgs_cons (pg_name (i := 4) nd rfl (Or.inl rfl)) (pgs_cons (pg_tup rfl (pgs_cons (pg_name (i := 5) nd rfl (Or.inl rfl)) (pgs_cons (pg_name (i := 6) nd rfl (Or.inl rfl)) pgs_nil))) pgs_nil)))
(pss_cons (ps_set (i := 7) nd rfl (Or.inl rfl) (pe_op op_add (pv 5) (pv 6)))
(pss_cons (ps_set (i := 8) nd rfl (Or.inl rfl) (pe_callB (call_minL rfl) rfl nb.min boot_min (pa_cons (pe_op op_cat (pe_lst (pa_cons (pe_op op_add (pe_op op_add (pv 7) (pe_callB call_len_seq rfl nb.len PySem.boot_len (pa_cons (pv 0) pa_nil))) pe_int) pa_nil)) (pe_slice sl_list (pv 2) (po_some (pe_op op_add (pv 4) pe_int)) (po_some (pe_op op_add (pv 4) pe_int)))) pa_nil)))
(pss_cons (ps_expr (pe_bm PySem.F.plainAttrs_list PySem.F.slot_list_append PySem.F.type_list_append mt_append (pv 3) (pa_cons (pe_callTy (call_list_rng rfl) rfl nb.list boot_list (pa_cons (pe_callTy call_rng2 rfl nb.range boot_range (pa_cons (pv 5) (pa_cons (pv 7) pa_nil))) pa_nil)) pa_nil)))
(pss_one (ps_expr (pe_bm PySem.F.plainAttrs_list PySem.F.slot_list_append PySem.F.type_list_append mt_append (pv 3) (pa_cons (pe_callTy (call_list_rng rfl) rfl nb.list boot_list (pa_cons (pe_callTy call_rng2 rfl nb.range boot_range (pa_cons (pv 7) (pa_cons (pv 8) pa_nil))) pa_nil)) pa_nil))))))))
(pss_one (ps_ret (pv 3))))))), ?_⟩
  refine ⟨_, rfl, a, row, rfl, ha, up, r12, fun rf ys H1 s1 h1 tp => ?_⟩
  have bal := BB.blk_all row
  have bln := blk_len row
  have ly := tp.1
  generalize hbl : BB.blk row = bl at tp bal bln ly q
  -- where they start
  refine ⟨_, rfl, rf, rfl, ⟨_, SqL.of h1⟩, fun D hD => ?_⟩
  refine comp_go ys.length (by rw [sizeLine_eq]; omega) (fun i => .int (bl.getD i (0, 0)).1) (fun σ => ∃ o1 o2, σ = [o1, o2]) _ hD (by exact ⟨_, _, rfl⟩) (items_lst h1) (fun i z σ' H2 hi s2 im hσ R hR => ?_) (fun H2 s2 hD2 => ?_)
  · obtain ⟨o1, o2, rfl⟩ := hσ
    obtain ⟨p, b, rfl, eb, hp⟩ := tps_get tp im
    exact ⟨p, _, rfl, SqT.of (s2 _ _ hp), rfl, _, _, rfl, _, _, rfl, rfl, _, rfl, hR _ _ _ ⟨_, _, rfl⟩ (Same.refl _) (by rw [getD_at eb])⟩
  have eD : H2 D = some (.lst ((bl.map (·.1)).map V.int)) := by
    rw [hD2, ly, BB.all_list (0, 0) bl (fun q => V.int q.1), List.map_map]
    rfl
  have S2 := s1.trans s2
  have h12 := s2 _ _ h1
  have tp2 := tp.same s2
  refine ⟨(by show 0 ≤ sizeLine; decide), fun U hU => ?_⟩
  have sU := same_new hU (.lst [])
  refine ⟨_, rfl, rf, _, rfl, SqL.of (sU _ _ h12), ?_⟩
  refine for_items ys.length (fun i H3 v => ∃ p x, v = .ref p ∧ H3 p = some (.tup [.int i, x]) ∧ ys[i]? = some x) (fun i σ H' => ∃ o4 o5 o6 o7 o8 zs, σ = [some (.ref a), some (.ref rf), some (.ref D), some (.ref U), o4, o5, o6, o7, o8] ∧ Same H2 H' ∧ H' U = some (.lst zs) ∧ Ls H' zs (prI (row.length + 1) bl i)) ⟨_, _, _, _, _, [], rfl, sU, upd_same, rfl, fun j r e => by cases e⟩ (fun i σ H' hi hp => ?_) (fun i x σ H' H4 hi hp s4 im => ?_) (fun σ H' hp => ?_)
  · obtain ⟨o4, o5, o6, o7, o8, zs, rfl, sm, _⟩ := hp
    exact items_enum (sm _ _ h12) i H' (Same.refl _)
  · obtain ⟨o4, o5, o6, o7, o8, zs, rfl, sm, hz, ls⟩ := hp
    obtain ⟨p, v, rfl, hp, hv⟩ := im
    obtain ⟨pb, b, rfl, eb, hpb⟩ := tps_get tp2 hv
    have S4 := sm.trans s4
    have bm : b ∈ bl := List.mem_of_getElem? eb
    obtain ⟨b1, b2, b3⟩ := bal.1 b bm
    have bb := bd _ b1
    have gb := getD_at eb
    refine ⟨p, _, rfl, SqT.of hp, rfl, _, _, rfl, _, _, rfl, pb, _, rfl, SqT.of (S4 _ _ hpb), rfl, _, _, rfl, _, _, rfl, rfl, rfl, ?_⟩
    -- behind, and the end
    refine ⟨_, rfl, _, rfl, _, _, rfl, rfl, ?_⟩
    refine ⟨_, rfl, _, rfl, a, _, rfl, .inr (SqT.of (S4 _ _ (S2 _ _ ha))), _, _, rfl, rfl, _, _, rfl, rfl, (by show 1 ≤ sizeLine; decide), fun l1 hl1 => ?_⟩
    have ml : (row.map V.int).length = row.length := List.length_map ..
    have k1 := same_new hl1 (.lst [.int (b.1 + b.2 + ((row.map V.int).length : Int) + 1)])
    refine ⟨_, rfl, _, rfl, _, _, rfl, rfl, _, rfl, _, rfl, _, _, rfl, rfl, _, rfl, D, _, rfl, SqL.of (k1 _ _ (S4 _ _ eD)), fun l2 hl2 => ?_⟩
    have ec : cutV ((bl.map (·.1)).map V.int) (some ((i : Int) + 1)) (some ((i : Int) + 2)) = (((bl.map (·.1)).drop (i + 1)).take 1).map V.int := by
      rw [show ((i : Int) + 1) = ((i + 1 : Nat) : Int) by omega, show ((i : Int) + 2) = ((i + 1 + 1 : Nat) : Int) by omega, cut_one, List.map_take, List.map_drop]
    rw [ec]
    have k2 := same_new hl2 (.lst ((((bl.map (·.1)).drop (i + 1)).take 1).map V.int))
    have f1 := k2 _ _ (show (upd H4 l1 (.lst [.int (b.1 + b.2 + ((row.map V.int).length : Int) + 1)])) l1 = some (.lst [.int (b.1 + b.2 + ((row.map V.int).length : Int) + 1)]) from upd_same)
    refine ⟨l1, l2, _, _, rfl, rfl, f1, upd_same, by rw [sizeLine_eq, List.length_map (f := V.int) (as := ((bl.map (·.1)).drop (i + 1)).take 1), List.length_take]; show 1 + _ ≤ _; omega, fun L hL => ?_⟩
    have k3 := same_new hL (.lst ([.int (b.1 + b.2 + ((row.map V.int).length : Int) + 1)] ++ (((bl.map (·.1)).drop (i + 1)).take 1).map V.int))
    refine ⟨L, (b.1 + b.2 + ((row.map V.int).length : Int) + 1) :: ((bl.map (·.1)).drop (i + 1)).take 1, rfl, SqL.of upd_same, by simp, fun m hm hle => ?_⟩
    have k5 := k1.trans (k2.trans k3)
    have S5 := S4.trans k5
    have hz5 := k5 _ _ (s4 _ _ hz)
    have ls5 := (ls.same s4).same k5
    generalize upd (upd (upd H4 l1 (.lst [.int (b.1 + b.2 + ((row.map V.int).length : Int) + 1)])) l2 (.lst ((((bl.map (·.1)).drop (i + 1)).take 1).map V.int))) L (.lst ([.int (b.1 + b.2 + ((row.map V.int).length : Int) + 1)] ++ (((bl.map (·.1)).drop (i + 1)).take 1).map V.int)) = H5 at S5 hz5 ls5 ⊢
    rw [ml] at hm hle
    have eN := end_is (bl := bl) (i := i) (N := row.length) (m := m) (by rw [gb]; exact hm) (by rw [gb]; exact hle)
    rw [gb] at eN
    have m1 := hle _ List.mem_cons_self
    have m0 : -4000000000 ≤ m := by
      rcases List.mem_cons.mp hm with w | w
      · omega
      · have w2 := List.mem_of_mem_drop (List.mem_of_mem_take w)
        obtain ⟨b', hb', rfl⟩ := List.mem_map.mp w2
        exact (bd _ (bal.1 b' hb').1).1
    have g13 : gapN (row.length + 1) bl i ≤ 13 := by omega
    have lp := prI_len (row.length + 1) bl i
    have lzs : zs.length = 2 * i := by rw [ls.1, lp]
    -- the run of balls
    refine ⟨_, rfl, .inl ⟨rfl, _, SqL.of hz5⟩, _, rfl, _, rfl, _, _, rfl, fun p1 hp1 => ?_⟩
    refine ⟨p1, _, _, rfl, upd_same, ⟨by omega, by omega, by omega, by omega⟩, by rw [sizeLine_eq]; omega, fun l3 hl3 => ?_⟩
    rw [show (b.1 + b.2 - b.1).toNat = b.2.toNat by congr 1; omega]
    obtain ⟨a1, a2, a3, a4⟩ := app_run (r := BB.rg b.1 b.2.toNat) S5 hU hz5 ls5 hp1 hl3
    refine ⟨U, _, _, rfl, rfl, a1, by rw [sizeLine_eq]; omega, ?_⟩
    -- the run of empty boxes
    refine ⟨_, rfl, .inl ⟨rfl, _, SqL.of a3⟩, _, rfl, _, rfl, _, _, rfl, fun p2 hp2 => ?_⟩
    refine ⟨p2, _, _, rfl, upd_same, ⟨by omega, by omega, by omega, by omega⟩, by rw [sizeLine_eq]; omega, fun l4 hl4 => ?_⟩
    rw [eN]
    obtain ⟨c1, c2, c3, c4⟩ := app_run (r := BB.rg (b.1 + b.2) (gapN (row.length + 1) bl i)) a2 hU a3 a4 hp2 hl4
    refine ⟨U, _, _, rfl, rfl, c1, by rw [List.length_append, sizeLine_eq]; show _ + 1 + 1 ≤ _; omega, ?_⟩
    refine ⟨_, _, _, _, _, _, rfl, c2, c3, ?_⟩
    rw [prI_succ]
    unfold two
    rw [gb, snoc2]
    exact c4
  · obtain ⟨o4, o5, o6, o7, o8, zs, rfl, sm, hz, ls⟩ := hp
    rw [ly, prI_all] at ls
    exact ⟨_, rfl, q U zs H' (S2.trans sm) hz ls⟩
end
end K33
end
section
namespace K33
open PySem PySem.Spec PyProof.Rows L2
set_option maxHeartbeats 4000000
set_option maxRecDepth 100000
set_option Elab.async false
set_option linter.unusedVariables false
theorem Ls.drop {H : Hp} {xs : List V} {R : List (List Int)} (t : Ls H xs R) (k : Nat) : Ls H (xs.drop k) (R.drop k) := by
  refine ⟨by rw [List.length_drop, List.length_drop, t.1], fun j r e => ?_⟩
  rw [List.getElem?_drop] at e
  obtain ⟨p, e1, e2⟩ := t.2 _ r e
  exact ⟨p, by rw [List.getElem?_drop]; exact e1, e2⟩
theorem Ls.take {H : Hp} {xs : List V} {R : List (List Int)} (t : Ls H xs R) (k : Nat) : Ls H (xs.take k) (R.take k) := by
  refine ⟨by rw [List.length_take, List.length_take, t.1], fun j r e => ?_⟩
  by_cases c : j < k
  · rw [List.getElem?_take_of_lt c] at e
    obtain ⟨p, e1, e2⟩ := t.2 _ r e
    exact ⟨p, by rw [List.getElem?_take_of_lt c]; exact e1, e2⟩
  · rw [List.getElem?_eq_none (by rw [List.length_take]; omega)] at e
    cases e
theorem Ls.app {H : Hp} {xs ys : List V} {R S : List (List Int)} (t : Ls H xs R) (u : Ls H ys S) : Ls H (xs ++ ys) (R ++ S) := by
  refine ⟨by rw [List.length_append, List.length_append, t.1, u.1], fun j r e => ?_⟩
  by_cases z : j < R.length
  · rw [List.getElem?_append_left z] at e
    obtain ⟨p, e1, e2⟩ := t.2 j r e
    exact ⟨p, by rw [List.getElem?_append_left (by rw [t.1]; exact z)]; exact e1, e2⟩
  · rw [List.getElem?_append_right (by omega)] at e
    obtain ⟨p, e1, e2⟩ := u.2 _ r e
    exact ⟨p, by rw [List.getElem?_append_right (by rw [t.1]; omega), t.1]; exact e1, e2⟩
theorem Ls.one {H : Hp} {p : Addr} {r : List Int} (h : H p = some (.lst (r.map V.int))) : Ls H [.ref p] [r] := Ls.snoc (xs := []) (R := []) ⟨rfl, fun j r e => by cases e⟩ h
def stj (σ : L2.St) : Int := match σ[1]? with
  | some (some (V.int x)) => x
  | _ => 0
def spWo : Sp := fun vs H Q _ => ∃ (a : Addr) (xs : List V) (pre post : List (List Int)) (s g : List Int), vs = [.ref a, .int (pre.length : Int)] ∧ H a = some (.lst xs) ∧ Ls H xs (pre ++ s :: g :: post) ∧ (pre ++ s :: g :: post).length ≤ 1000 ∧ (∀ r ∈ pre ++ s :: g :: post, r.length ≤ 1000) ∧
  ∀ (r : Addr) (ys : List V) (H' : Hp), Same H H' → H' r = some (.lst ys) → Ls H' ys (BB.wo (pre ++ s :: g :: post) pre.length) → Q (.ref r) H'
section
variable {P : Program} {w : World} {K : PySem.W.Frag} {mg : Str → Option Value} {base : Heap}
set_option maxRecDepth 100000 in
theorem ok_first_short {f : Addr} {fd : FuncData} (F : Fun K "first_short" "first_short" s_first_short f fd) (nb : NbE mg)   :
    FnOk P w K mg base CX0 1 f fd ["runs"] spFs := by
  have nd := sc_first_short.nd
  refine F.ok (k := 0) sc_first_short (fun vs H Q E h => ?_) (fun cdv A outer s H vs Q E hr h => ?_)
  · obtain ⟨a, xs, R, rfl, _⟩ := h
    rfl
  obtain ⟨a, xs, R, rfl, ha, ls, l1, l2, q⟩ := h
  refine ⟨_, (pss_cons (ps_set (i := 1) nd rfl (Or.inl rfl) pe_int)
(pss_cons (ps_while PassesOwn.never (pt_cmpR op_gt (pe_callB call_len_seq rfl nb.len PySem.boot_len (pa_cons (pe_ix ix_list (pv 0) (pv 1) (fun _ _ => rfl)) pa_nil)) (pe_callB call_len_seq rfl nb.len PySem.boot_len (pa_cons (pe_ix ix_list (pv 0) (pe_op op_add (pv 1) pe_int) (fun _ _ => rfl)) pa_nil)) (nomark _))
(pss_one (ps_aug (i := 1) nd rfl (Or.inl rfl) pe_int ip_add)))
(pss_one (ps_ret (pv 1))))), ?_⟩
  refine while_by (fun σ H' => Same H H' ∧ ∃ j : Nat, σ = [some (.ref a), some (.int (j : Int))] ∧ j ≤ BB.fs R) (fun σ _ => ((BB.fs R : Int) - stj σ).toNat) ⟨Same.refl H, 0, rfl, Nat.zero_le _⟩ (fun σ H1 hp => ?_) (fun σ H Q Q' hq h => ?_)
  · obtain ⟨sm, j, rfl, hj⟩ := hp
    obtain ⟨p1, e1, f1⟩ := ls.get (j := j) (by omega)
    obtain ⟨p2, e2, f2⟩ := ls.get (j := j + 1) (by omega)
    refine ⟨_, rfl, _, rfl, a, _, _, _, rfl, rfl, SqL.of (sm _ _ ha), atI_nat e1, p1, _, rfl, .inl (SqL.of (sm _ _ f1)), ?_⟩
    refine ⟨_, rfl, _, rfl, _, _, rfl, rfl, a, _, _, _, rfl, rfl, SqL.of (sm _ _ ha), (show atI xs ((j : Int) + 1) = some (.ref p2) by rw [show ((j : Int) + 1) = ((j + 1 : Nat) : Int) by omega]; exact atI_nat e2), p2, _, rfl, .inl (SqL.of (sm _ _ f2)), _, _, rfl, rfl, _, rfl, ?_⟩
    rw [List.length_map, List.length_map]
    by_cases c : j < BB.fs R
    · have := BB.fs_lt R j c
      rw [decide_eq_true (by omega)]
      refine iteT ?_
      refine ⟨_, rfl, _, _, rfl, rfl, ⟨sm, j + 1, by rw [show ((j + 1 : Nat) : Int) = (j : Int) + 1 by omega]; rfl, c⟩, ?_⟩
      show ((BB.fs R : Int) - ((j : Int) + 1)).toNat < ((BB.fs R : Int) - (j : Int)).toNat
      omega
    · have ej : j = BB.fs R := by omega
      subst ej
      rw [decide_eq_false (by omega)]
      exact iteF ⟨_, rfl, q H1 sm⟩
  · obtain ⟨v1, x1, v2, x2, a1, b1, c1, d1, x3, x4, x5, x6, p1, y1, x7, x8, h⟩ := h
    obtain ⟨v3, x9, v4, xa, i1, i2, xb, xc, a2, b2, c2, d2, xd, xe, xf, xg, p2, y2, xh, xi, j1, j2, xj, xk, k, xl, h⟩ := h
    exact ⟨v1, x1, v2, x2, a1, b1, c1, d1, x3, x4, x5, x6, p1, y1, x7, x8, v3, x9, v4, xa, i1, i2, xb, xc, a2, b2, c2, d2, xd, xe, xf, xg, p2, y2, xh, xi, j1, j2, xj, xk, k, xl, hq _ _ h⟩
set_option maxRecDepth 100000 in
theorem ok_without_wave {f : Addr} {fd : FuncData} (F : Fun K "without_wave" "without_wave" s_without_wave f fd) (nb : NbE mg)   :
    FnOk P w K mg base CX0 1 f fd ["runs", "at"] spWo := by
  have nd := sc_without_wave.nd
  refine F.ok (k := 0) sc_without_wave (fun vs H Q E h => ?_) (fun cdv A outer s H vs Q E hr h => ?_)
  · obtain ⟨a, xs, pre, post, s, g, rfl, _⟩ := h
    rfl
  obtain ⟨a, xs, pre, post, s, g, rfl, ha, ls, rl, big, q⟩ := h
  refine ⟨_, (pss_cons (ps_if (pt_cmpR op_eq (pv 1) pe_int (nomark _))
(pss_one (ps_ret (pe_slice sl_list (pv 0) (po_some pe_int) po_none)))
pss_nil)
(pss_cons (ps_set (i := 2) nd rfl (Or.inl rfl) (pe_slice sl_list (pe_ix ix_list (pv 0) (pe_op op_add (pv 1) pe_int) (fun _ _ => rfl)) (po_some (pe_callB call_len_seq rfl nb.len PySem.boot_len (pa_cons (pe_ix ix_list (pv 0) (pv 1) (fun _ _ => rfl)) pa_nil))) po_none))
(pss_one (ps_ret (pe_op op_cat (pe_op op_cat (pe_slice sl_list (pv 0) po_none (po_some (pe_op op_sub (pv 1) pe_int))) (pe_lst (pa_cons (pe_op op_cat (pe_ix ix_list (pv 0) (pe_op op_sub (pv 1) pe_int) (fun _ _ => rfl)) (pv 2)) pa_nil))) (pe_slice sl_list (pv 0) (po_some (pe_op op_add (pv 1) pe_int)) po_none)))))), ?_⟩
  refine ⟨_, rfl, rfl, _, rfl, ?_⟩
  rcases List.eq_nil_or_concat pre with e | ⟨p, h, e⟩
  · subst e
    rw [decide_eq_true (show V.int ((([] : List (List Int)).length : Nat) : Int) = V.int 0 from rfl)]
    refine iteT ?_
    refine ⟨_, rfl, _, rfl, a, _, rfl, SqL.of ha, fun t ht => ?_⟩
    rw [show (2 : Int) = ((2 : Nat) : Int) from rfl, cut_from]
    exact q t _ _ (same_new ht _) upd_same ((ls.drop 2).same (same_new ht _))
  rw [List.concat_eq_append] at e
  subst e
  have ln : (p ++ [h]).length = p.length + 1 := by rw [List.length_append]; rfl
  rw [decide_eq_false (show ¬ V.int (((p ++ [h]).length : Nat) : Int) = V.int 0 from fun z => by have := V.int.inj z; omega)]
  refine iteF ?_
  have hpos : ∀ (A : List (List Int)) (x : List Int) (B : List (List Int)), A ++ x :: B = (p ++ [h]) ++ s :: g :: post → ∃ px, xs[A.length]? = some (.ref px) ∧ H px = some (.lst (x.map V.int)) ∧ x.length ≤ 1000 := fun A x B e => by
    rw [← e] at ls big
    obtain ⟨px, e1, e2⟩ := ls.2 A.length x (by rw [List.getElem?_append_right (Nat.le_refl _), Nat.sub_self]; rfl)
    exact ⟨px, e1, e2, big x (by simp)⟩
  obtain ⟨ph, eh, fh, bh⟩ := hpos p h (s :: g :: post) (by simp)
  obtain ⟨ps, es, fs_, bs⟩ := hpos (p ++ [h]) s (g :: post) rfl
  obtain ⟨pg, eg, fg, bg⟩ := hpos ((p ++ [h]) ++ [s]) g post (by simp)
  rw [List.length_append, ln] at eg
  rw [ln] at es ⊢
  have ps0 : ∀ {z : Int} {k : Nat} {x : V}, z = (k : Int) → xs[k]? = some x → atI xs z = some x := fun {z k x} e hx => by rw [e]; exact atI_nat hx
  -- the rest
  refine ⟨_, rfl, _, rfl, _, _, rfl, rfl, a, _, _, _, rfl, rfl, SqL.of ha, ps0 (k := p.length + 1 + 1) (by omega) eg, ?_⟩
  refine ⟨_, rfl, _, rfl, a, _, _, _, rfl, rfl, SqL.of ha, ps0 rfl es, ps, _, rfl, .inl (SqL.of fs_), _, rfl, pg, _, rfl, SqL.of fg, fun t1 ht1 => ?_⟩
  rw [cut_from, List.length_map, ← List.map_drop]
  have k1 := same_new ht1 (.lst ((g.drop s.length).map V.int))
  have f1 : (upd H t1 (.lst ((g.drop s.length).map V.int))) t1 = some (.lst ((g.drop s.length).map V.int)) := upd_same
  generalize upd H t1 (.lst ((g.drop s.length).map V.int)) = H1 at k1 f1 ⊢
  -- those ahead
  refine ⟨_, rfl, _, rfl, _, _, rfl, rfl, _, rfl, a, _, rfl, SqL.of (k1 _ _ ha), fun t2 ht2 => ?_⟩
  rw [show ((p.length + 1 : Nat) : Int) - 1 = ((p.length : Nat) : Int) by omega, cut_to]
  have k2 := same_new ht2 (.lst (xs.take p.length))
  have f2 : (upd H1 t2 (.lst (xs.take p.length))) t2 = some (.lst (xs.take p.length)) := upd_same
  generalize upd H1 t2 (.lst (xs.take p.length)) = H2 at k2 f2 ⊢
  have K2 := k1.trans k2
  -- the two that are put together
  refine ⟨_, rfl, _, rfl, _, _, rfl, rfl, a, _, _, _, rfl, rfl, SqL.of (K2 _ _ ha), ps0 (k := p.length) (by omega) eh, ?_⟩
  refine ⟨_, rfl, ph, t1, _, _, rfl, rfl, K2 _ _ fh, k2 _ _ f1, by rw [List.length_map, List.length_map, List.length_drop, sizeLine_eq]; omega, fun t3 ht3 => ?_⟩
  rw [← List.map_append]
  have k3 := same_new ht3 (.lst ((h ++ g.drop s.length).map V.int))
  have f3 : (upd H2 t3 (.lst ((h ++ g.drop s.length).map V.int))) t3 = some (.lst ((h ++ g.drop s.length).map V.int)) := upd_same
  generalize upd H2 t3 (.lst ((h ++ g.drop s.length).map V.int)) = H3 at k3 f3 ⊢
  refine ⟨(by show 1 ≤ sizeLine; decide), fun t4 ht4 => ?_⟩
  have k4 := same_new ht4 (.lst [.ref t3])
  have f4 : (upd H3 t4 (.lst [.ref t3])) t4 = some (.lst [.ref t3]) := upd_same
  generalize upd H3 t4 (.lst [.ref t3]) = H4 at k4 f4 ⊢
  have lx := ls.1
  refine ⟨t2, t4, _, _, rfl, rfl, k4 _ _ (k3 _ _ f2), f4, by rw [List.length_take, sizeLine_eq]; show _ + 1 ≤ _; omega, fun t5 ht5 => ?_⟩
  have k5 := same_new ht5 (.lst (xs.take p.length ++ [.ref t3]))
  have f5 : (upd H4 t5 (.lst (xs.take p.length ++ [.ref t3]))) t5 = some (.lst (xs.take p.length ++ [.ref t3])) := upd_same
  generalize upd H4 t5 (.lst (xs.take p.length ++ [.ref t3])) = H5 at k5 f5 ⊢
  have K5 := K2.trans (k3.trans (k4.trans k5))
  -- those behind
  refine ⟨_, rfl, _, rfl, _, _, rfl, rfl, _, rfl, a, _, rfl, SqL.of (K5 _ _ ha), fun t6 ht6 => ?_⟩
  rw [show ((p.length + 1 : Nat) : Int) + 2 = ((p.length + 3 : Nat) : Int) by omega, cut_from]
  have k6 := same_new ht6 (.lst (xs.drop (p.length + 3)))
  have f6 : (upd H5 t6 (.lst (xs.drop (p.length + 3)))) t6 = some (.lst (xs.drop (p.length + 3))) := upd_same
  generalize upd H5 t6 (.lst (xs.drop (p.length + 3))) = H6 at k6 f6 ⊢
  refine ⟨t5, t6, _, _, rfl, rfl, k6 _ _ f5, f6, by rw [List.length_append, List.length_take, List.length_drop, sizeLine_eq]; show _ + 1 + _ ≤ _; omega, fun t7 ht7 => ?_⟩
  have k7 := same_new ht7 (.lst ((xs.take p.length ++ [.ref t3]) ++ xs.drop (p.length + 3)))
  have K7 := K5.trans (k6.trans k7)
  refine q t7 _ _ K7 upd_same ?_
  rw [BB.wo_app]
  have T : (p ++ [h] ++ s :: g :: post).take p.length = p := by rw [List.append_assoc, List.take_left' rfl]
  have Dd : (p ++ [h] ++ s :: g :: post).drop (p.length + 3) = post := by
    rw [show p ++ [h] ++ s :: g :: post = (p ++ [h, s, g]) ++ post by simp]
    exact List.drop_left' (by simp)
  have l1 := ls.take p.length
  have l2 := ls.drop (p.length + 3)
  rw [T] at l1
  rw [Dd] at l2
  exact ((l1.same K7).app (Ls.one (k7 _ _ (k6 _ _ (k5 _ _ (k4 _ _ f3)))))).app (l2.same K7)
end
end K33
end
section
/-! Waves, one after another. -/
namespace BB
set_option linter.unusedVariables false
theorem wo_len {pre post : List (List Int)} {s g : List Int} : (wo (pre ++ s :: g :: post) pre.length).length + 2 = (pre ++ s :: g :: post).length ∧ (wo (pre ++ s :: g :: post) pre.length).flatten.length ≤ (pre ++ s :: g :: post).flatten.length := by
  rcases List.eq_nil_or_concat pre with e | ⟨p, h, e⟩
  · subst e
    show post.length + 2 = (s :: g :: post).length ∧ post.flatten.length ≤ (s :: g :: post).flatten.length
    rw [List.flatten_cons, List.flatten_cons, List.length_append, List.length_append]
    exact ⟨rfl, by omega⟩
  · rw [List.concat_eq_append] at e
    subst e
    rw [wo_app]
    constructor
    · simp only [List.length_append, List.length_cons, List.length_nil]
      omega
    · have : (g.drop s.length).length ≤ g.length := by rw [List.length_drop]; omega
      simp only [List.flatten_append, List.flatten_cons, List.flatten_nil, List.length_append, List.length_nil]
      omega
theorem wvs_nil : ∀ n, wvs n [] = []
  | 0 => rfl
  | n + 1 => rfl
theorem mem_flat {R : List (List Int)} {n : Nat} (h : R.flatten.length ≤ n) : ∀ r ∈ R, r.length ≤ n := fun r hr => by
  obtain ⟨A, B, rfl⟩ := List.append_of_mem hr
  rw [List.flatten_append, List.flatten_cons, List.length_append, List.length_append] at h
  omega
theorem lr_flat {c : Nat} : ∀ row : List Int, (lr c row).flatten.length ≤ row.length * (c + 1) ∧ (lr c row).length ≤ 2 * row.length
  | [] => ⟨Nat.zero_le _, Nat.zero_le _⟩
  | [p] => by
    show (([p] : List Int) ++ (rg (p + 1) c ++ [])).length ≤ 1 * (c + 1) ∧ 2 ≤ 2
    rw [List.append_nil, List.length_append, rg_len]
    simp
    omega
  | p :: q :: r => by
    obtain ⟨i1, i2⟩ := lr_flat (c := c) (q :: r)
    have em : (p :: q :: r).length * (c + 1) = (q :: r).length * (c + 1) + (c + 1) := by rw [List.length_cons, Nat.succ_mul]
    by_cases z : q = p + 1
    · obtain ⟨s, g, R, e1, e2⟩ := lr_in (c := c) (r := r) z
      rw [e1] at i1 i2
      rw [e2, em]
      simp only [List.flatten_cons, List.length_append, List.length_cons] at i1 i2 ⊢
      omega
    · rw [lr_out z, em]
      simp only [List.flatten_cons, List.length_append, List.length_cons, rg_len, List.length_nil] at i1 i2 ⊢
      omega
end BB
end
section
namespace K33
open PySem PySem.Spec PyProof.Rows L2
set_option maxHeartbeats 4000000
set_option maxRecDepth 100000
set_option Elab.async false
set_option linter.unusedVariables false
/-- a list of waves -/
def Ws (H : Hp) (ys : List V) (W : List (List Int × List Int)) : Prop := ys.length = W.length ∧ ∀ (j : Nat) (z : List Int × List Int), W[j]? = some z → ∃ p pa pb, ys[j]? = some (.ref p) ∧ H p = some (.tup [.ref pa, .ref pb]) ∧ H pa = some (.tup (z.1.map V.int)) ∧ H pb = some (.tup (z.2.map V.int))
theorem Ws.keep {H H' : Hp} {ys : List V} {W : List (List Int × List Int)} (t : Ws H ys W) (k : ∀ p xs, H p = some (.tup xs) → H' p = some (.tup xs)) : Ws H' ys W := ⟨t.1, fun j z e => let ⟨p, pa, pb, a, b, c, d⟩ := t.2 j z e; ⟨p, pa, pb, a, k _ _ b, k _ _ c, k _ _ d⟩⟩
theorem Ws.same {H H' : Hp} {ys : List V} {W : List (List Int × List Int)} (t : Ws H ys W) (s : Same H H') : Ws H' ys W := t.keep fun _ _ e => s _ _ e
theorem Ws.snoc {H : Hp} {ys : List V} {W : List (List Int × List Int)} {p pa pb : Addr} {z : List Int × List Int} (t : Ws H ys W) (h : H p = some (.tup [.ref pa, .ref pb])) (h1 : H pa = some (.tup (z.1.map V.int))) (h2 : H pb = some (.tup (z.2.map V.int))) : Ws H (ys ++ [.ref p]) (W ++ [z]) := by
  refine ⟨by rw [List.length_append, List.length_append, t.1]; rfl, fun j c e => ?_⟩
  by_cases x : j < W.length
  · rw [List.getElem?_append_left x] at e
    obtain ⟨q, qa, qb, e1, e2⟩ := t.2 j c e
    exact ⟨q, qa, qb, by rw [List.getElem?_append_left (by rw [t.1]; exact x)]; exact e1, e2⟩
  · have jl : j < (W ++ [z]).length := (List.getElem?_eq_some_iff.mp e).1
    have jj : j = W.length := by rw [List.length_append, List.length_singleton] at jl; omega
    subst jj
    rw [List.getElem?_append_right (Nat.le_refl _), Nat.sub_self] at e
    cases e
    exact ⟨p, pa, pb, by rw [← t.1, List.getElem?_append_right (Nat.le_refl _), Nat.sub_self]; rfl, h, h1, h2⟩
theorem Ls.told {H : Hp} {t : Addr} {ys xs : List V} {R : List (List Int)} {W : List (List Int × List Int)} {o : HO} (ls : Ls H xs R) (ne : ∀ r ∈ R, r ≠ []) (ht : H t = some (.lst ys)) (ws : Ws H ys W) : Ls (upd H t o) xs R := by
  refine ⟨ls.1, fun j r e => ?_⟩
  obtain ⟨p, e1, e2⟩ := ls.2 j r e
  refine ⟨p, e1, ?_⟩
  rw [upd_ne (fun z => ?_)]
  · exact e2
  · rw [z, ht] at e2
    have e3 : ys = r.map V.int := HO.lst.inj (Option.some.inj e2)
    have r0 : 0 < r.length := List.length_pos_iff.mpr (ne r (List.mem_of_getElem? e))
    have w0 : 0 < W.length := by rw [← ws.1, e3, List.length_map]; exact r0
    obtain ⟨q, qa, qb, f1, _⟩ := ws.2 0 _ (List.getElem?_eq_getElem w0)
    rw [e3, List.getElem?_map, List.getElem?_eq_getElem r0] at f1
    cases f1
theorem rr_ne {H : Hp} {t rr : Addr} {ys xs : List V} {R : List (List Int)} {W : List (List Int × List Int)} (hr : H rr = some (.lst xs)) (ls : Ls H xs R) (h0 : R ≠ []) (ht : H t = some (.lst ys)) (ws : Ws H ys W) : rr ≠ t := fun z => by
  rw [z, ht] at hr
  have e : ys = xs := HO.lst.inj (Option.some.inj hr)
  have r0 : 0 < R.length := List.length_pos_iff.mpr h0
  obtain ⟨p, e1, e2⟩ := ls.2 0 _ (List.getElem?_eq_getElem r0)
  have w0 : 0 < W.length := by rw [← ws.1, e, ls.1]; exact r0
  obtain ⟨q, qa, qb, f1, f2, _⟩ := ws.2 0 _ (List.getElem?_eq_getElem w0)
  rw [e, e1] at f1
  cases f1
  rw [e2] at f2
  cases f2
def lenR (σ : L2.St) (H : Hp) : Nat := match σ with
  | [_, _, some (V.ref p), _, _, _] => (match H p with | some (.lst xs) => xs.length | _ => 0)
  | _ => 0
theorem lenR_at {H : Hp} {o1 o2 o3 o4 o5 : Option V} {p : Addr} {zs : List V} (h : H p = some (.lst zs)) : lenR [o1, o2, some (.ref p), o3, o4, o5] H = zs.length := by
  show (match H p with | some (.lst xs) => xs.length | _ => 0) = _
  rw [h]
theorem seq_while {c : TT} {tb u : TS} {D : Ends} {σ : L2.St} {H : Hp} (h : tWhile c tb { D with nx := u D } σ H) : tSeq (tWhile c tb) u D σ H := h
def spWaves : Sp := fun vs H Q _ => ∃ (a : Addr) (row : List Int), vs = [.ref a] ∧ H a = some (.tup (row.map V.int)) ∧ row.Pairwise (· < ·) ∧ row.length ≤ 12 ∧ (∀ p ∈ row, -4000000000 ≤ p ∧ p ≤ 4000000000) ∧
  ∀ (r : Addr) (ys : List V) (H' : Hp), Same H H' → H r = none → H' r = some (.lst ys) → Ws H' ys (BB.wvs 12 (BB.pr (row.length + 1) (BB.blk row))) → Q (.ref r) H'
structure Wi (H0 H : Hp) (t rr : Addr) (W0 : List (List Int × List Int)) (R : List (List Int)) (N n : Nat) (W : List (List Int × List Int)) : Prop where
  sm : Same H0 H
  t0 : H0 t = none
  ty : ∃ ys, H t = some (.lst ys) ∧ Ws H ys W
  ry : ∃ xs, H rr = some (.lst xs) ∧ Ls H xs R
  gd : BB.Gd N R
  nn : N ≤ n
  wl : W.length + n ≤ 12
  ww : W ++ BB.wvs n R = W0
  rl : R.length ≤ 24
  fl : R.flatten.length ≤ 1000
section
variable {P : Program} {w : World} {K : PySem.W.Frag} {mg : Str → Option Value} {base : Heap}
set_option maxRecDepth 100000 in
theorem ok_waves {f : Addr} {fd : FuncData} (F : Fun K "waves" "waves" s_waves f fd) (nb : NbE mg) (h_runs_in : Has P w K mg base 2 "runs_in" ["row"] spRuns) (h_first_short : Has P w K mg base 1 "first_short" ["runs"] spFs) (h_without_wave : Has P w K mg base 1 "without_wave" ["runs", "at"] spWo)  :
    FnOk P w K mg base CX0 3 f fd ["row"] spWaves := by
  have nd := sc_waves.nd
  refine F.ok (k := 2) sc_waves (fun vs H Q E h => ?_) (fun cdv A outer s H vs Q E hr h => ?_)
  · obtain ⟨a, row, rfl, _⟩ := h
    rfl
  obtain ⟨a, row, rfl, ha, up, r12, bd, q⟩ := h
  refine ⟨_, (pss_cons (ps_set (i := 1) nd rfl (Or.inl rfl) (pe_lst pa_nil))
(pss_cons (ps_set (i := 2) nd rfl (Or.inl rfl) (pe_def h_runs_in hr (pa_cons (pv 0) pa_nil)))
(pss_cons (ps_while PassesOwn.never (pt_truth (pv 2) (fun _ => rfl))
(pss_cons (ps_set (i := 3) nd rfl (Or.inl rfl) (pe_def h_first_short hr (pa_cons (pv 2) pa_nil)))
(pss_cons (ps_set (i := 4) nd rfl (Or.inl rfl) (pe_callTy call_tuple_of rfl nb.tuple boot_tuple (pa_cons (pe_ix ix_list (pv 2) (pv 3) (fun _ _ => rfl)) pa_nil)))
(pss_cons (ps_set (i := 5) nd rfl (Or.inl rfl) (pe_callTy call_tuple_of rfl nb.tuple boot_tuple (pa_cons (pe_slice sl_list (pe_ix ix_list (pv 2) (pe_op op_add (pv 3) pe_int) (fun _ _ => rfl)) po_none (po_some (pe_callB call_len_seq rfl nb.len PySem.boot_len (pa_cons (pv 4) pa_nil)))) pa_nil)))
(pss_cons (ps_expr (pe_bm PySem.F.plainAttrs_list PySem.F.slot_list_append PySem.F.type_list_append mt_append (pv 1) (pa_cons (pe_ifExp (pt_cmpR op_eq (pe_op op_mod (pv 3) pe_int) pe_int (nomark _)) (pe_tup (pa_cons (pv 4) (pa_cons (pv 5) pa_nil))) (pe_tup (pa_cons (pv 5) (pa_cons (pv 4) pa_nil)))) pa_nil)))
(pss_one (ps_set (i := 2) nd rfl (Or.inl rfl) (pe_def h_without_wave hr (pa_cons (pv 2) (pa_cons (pv 3) pa_nil))))))))))
(pss_one (ps_ret (pv 1)))))), ?_⟩
  refine ⟨(by show 0 ≤ sizeLine; decide), fun t ht => ?_⟩
  have s1 := same_new ht (.lst [])
  have ht1 : (upd H t (.lst [])) t = some (.lst []) := upd_same
  generalize upd H t (.lst []) = H1 at s1 ht1 ⊢
  refine ⟨_, rfl, a, row, rfl, s1 _ _ ha, up, r12, bd, fun rr xs H2 s2 hr ls => ?_⟩
  have flt := BB.lr_flat (c := row.length + 1) row
  have gd := BB.lr_good (c := row.length + 1) (Nat.le_refl _) up
  rw [← BB.pr_blk] at flt gd
  have big : row.length * (row.length + 1 + 1) ≤ 12 * 14 := Nat.mul_le_mul r12 (by omega)
  have wi0 : Wi H H2 t rr (BB.wvs 12 (BB.pr (row.length + 1) (BB.blk row))) (BB.pr (row.length + 1) (BB.blk row)) row.length 12 [] := ⟨s1.trans s2, ht, ⟨[], s2 _ _ ht1, rfl, fun j z e => by cases e⟩, ⟨xs, hr, ls⟩, gd, r12, Nat.le_refl _, rfl, by omega, by omega⟩
  dsimp only
  refine seq_while ?_
  refine while_by (fun σ H' => ∃ rr R N n W o3 o4 o5, σ = [some (.ref a), some (.ref t), some (.ref rr), o3, o4, o5] ∧ Wi H H' t rr (BB.wvs 12 (BB.pr (row.length + 1) (BB.blk row))) R N n W) lenR ⟨rr, _, _, _, _, _, _, _, rfl, wi0⟩ (fun σ H' hp => ?_) (fun σ H Q Q' hq h => ?_)
  · obtain ⟨rr, R, N, n, W, o3, o4, o5, rfl, wi⟩ := hp
    obtain ⟨xs, hr, ls⟩ := wi.ry
    obtain ⟨ys, hty, ws⟩ := wi.ty
    have lm := lenR_at (o1 := some (V.ref a)) (o2 := some (V.ref t)) (o3 := o3) (o4 := o4) (o5 := o5) hr
    by_cases e0 : R = []
    · subst e0
      have ex : xs = [] := List.length_eq_zero_iff.mp ls.1
      subst ex
      refine ⟨_, rfl, false, .inl ⟨_, SqL.of hr, rfl⟩, iteF ?_⟩
      have ww := wi.ww
      rw [BB.wvs_nil, List.append_nil] at ww
      rw [ww] at ws
      exact ⟨_, rfl, q t ys H' wi.sm wi.t0 hty ws⟩
    have xn : xs ≠ [] := fun z => e0 (List.length_eq_zero_iff.mp (by rw [← ls.1, z]; rfl))
    refine ⟨_, rfl, true, .inl ⟨_, SqL.of hr, by cases xs with | nil => exact absurd rfl xn | cons _ _ => rfl⟩, iteT ?_⟩
    obtain ⟨pre, s, g, post, eR, ef, lsg⟩ := wi.gd.at e0
    subst eR
    have gd := wi.gd
    obtain ⟨sz, _⟩ := gd.size lsg
    have sp : 1 ≤ s.length := List.length_pos_iff.mpr (gd.ne s (by simp))
    have nn := wi.nn
    have wl := wi.wl
    have rl := wi.rl
    have big := BB.mem_flat wi.fl
    have bs := big s (by simp)
    have bg := big g (by simp)
    have lR : (pre ++ s :: g :: post).length = pre.length + 2 + post.length := by simp only [List.length_append, List.length_cons]; omega
    -- where
    refine ⟨_, rfl, rr, xs, _, rfl, hr, ls, by rw [ef]; omega, by rw [ef, BB.getD_pre, BB.getD_pre1]; exact lsg, fun H2 s2 => ?_⟩
    rw [ef]
    obtain ⟨ps, es, fs_⟩ := ls.get (j := pre.length) (by omega)
    obtain ⟨pg, eg, fg⟩ := ls.get (j := pre.length + 1) (by omega)
    rw [BB.getD_pre] at fs_
    rw [BB.getD_pre1] at fg
    -- the short one
    refine ⟨_, rfl, _, rfl, rr, _, _, _, rfl, rfl, SqL.of (s2 _ _ hr), atI_nat es, ps, _, rfl, .inl ⟨SqL.of (s2 _ _ fs_), fun t1 ht1' => ?_⟩⟩
    have k1 := s2.trans (same_new ht1' (.tup (s.map V.int)))
    have f1 : (upd H2 t1 (.tup (s.map V.int))) t1 = some (.tup (s.map V.int)) := upd_same
    generalize upd H2 t1 (.tup (s.map V.int)) = H3 at k1 f1 ⊢
    -- as many behind it
    refine ⟨_, rfl, _, rfl, _, _, rfl, rfl, rr, _, _, _, rfl, rfl, SqL.of (k1 _ _ hr), (show atI xs ((pre.length : Int) + 1) = some (.ref pg) by rw [show ((pre.length : Int) + 1) = ((pre.length + 1 : Nat) : Int) by omega]; exact atI_nat eg), ?_⟩
    refine ⟨_, rfl, t1, _, rfl, .inr (SqT.of f1), _, rfl, pg, _, rfl, SqL.of (k1 _ _ fg), fun t2 ht2 => ?_⟩
    rw [cut_to, List.length_map, ← List.map_take]
    refine ⟨t2, _, rfl, .inl ⟨SqL.of upd_same, fun t3 ht3 => ?_⟩⟩
    have k3 := (same_new ht2 (.lst ((g.take s.length).map V.int))).trans (same_new ht3 (.tup ((g.take s.length).map V.int)))
    have f3 : (upd (upd H3 t2 (.lst ((g.take s.length).map V.int))) t3 (.tup ((g.take s.length).map V.int))) t3 = some (.tup ((g.take s.length).map V.int)) := upd_same
    generalize upd (upd H3 t2 (.lst ((g.take s.length).map V.int))) t3 (.tup ((g.take s.length).map V.int)) = H4 at k3 f3 ⊢
    have K4 := k1.trans k3
    have f14 := k3 _ _ f1
    have ht4 := K4 _ _ hty
    have ws4 := ws.same K4
    have ls4 := ls.same K4
    have rne := rr_ne (K4 _ _ hr) ls4 e0 ht4 ws4
    obtain ⟨n', en⟩ : ∃ n', n = n' + 1 := ⟨n - 1, by omega⟩
    subst en
    -- what comes behind
    have fin : ∀ (pa pb p : Addr), H4 p = none → H4 pa = some (.tup ((BB.wv (pre ++ s :: g :: post) pre.length).1.map V.int)) → H4 pb = some (.tup ((BB.wv (pre ++ s :: g :: post) pre.length).2.map V.int)) →
        (upd H4 p (.tup [.ref pa, .ref pb])) t = some (.lst ys) ∧ (upd (upd H4 p (.tup [.ref pa, .ref pb])) t (.lst (ys ++ [.ref p]))) rr = some (.lst xs) ∧ Ls (upd (upd H4 p (.tup [.ref pa, .ref pb])) t (.lst (ys ++ [.ref p]))) xs (pre ++ s :: g :: post) ∧
        (∀ r2 ys2 H5, Same (upd (upd H4 p (.tup [.ref pa, .ref pb])) t (.lst (ys ++ [.ref p]))) H5 → H5 r2 = some (.lst ys2) → Ls H5 ys2 (BB.wo (pre ++ s :: g :: post) pre.length) → Wi H H5 t r2 (BB.wvs 12 (BB.pr (row.length + 1) (BB.blk row))) (BB.wo (pre ++ s :: g :: post) pre.length) (N - s.length) n' (W ++ [BB.wv (pre ++ s :: g :: post) pre.length])) := by
      intro pa pb p hp hpa hpb
      have kp := same_new hp (.tup [.ref pa, .ref pb])
      have fp : (upd H4 p (.tup [.ref pa, .ref pb])) p = some (.tup [.ref pa, .ref pb]) := upd_same
      have hpa' := kp _ _ hpa
      have hpb' := kp _ _ hpb
      have hr' := kp _ _ (K4 _ _ hr)
      have ht' := kp _ _ ht4
      have ws' := ws4.same kp
      have ls' := ls4.same kp
      have KP : Same H (upd H4 p (.tup [.ref pa, .ref pb])) := wi.sm.trans (K4.trans kp)
      generalize upd H4 p (.tup [.ref pa, .ref pb]) = G at kp fp hpa' hpb' hr' ht' ws' ls' KP ⊢
      have tupk : ∀ q zs, G q = some (.tup zs) → (upd G t (.lst (ys ++ [.ref p]))) q = some (.tup zs) := fun q zs e => by
        rw [upd_ne (fun z => by rw [z, ht'] at e; cases e)]
        exact e
      refine ⟨ht', by rw [upd_ne rne]; exact hr', ls'.told gd.ne ht' ws', fun r2 ys2 H5 s5 h5 l5 => ?_⟩
      have wn : Ws (upd G t (.lst (ys ++ [.ref p]))) (ys ++ [.ref p]) (W ++ [BB.wv (pre ++ s :: g :: post) pre.length]) := Ws.snoc (ws'.keep tupk) (tupk _ _ fp) (tupk _ _ hpa') (tupk _ _ hpb')
      obtain ⟨w1, w2⟩ := BB.wo_len (pre := pre) (post := post) (s := s) (g := g)
      refine ⟨fun c o e => s5 _ _ (by rw [upd_ne (ne_of_none e wi.t0)]; exact KP _ _ e), wi.t0, ⟨_, s5 _ _ upd_same, wn.same s5⟩, ⟨ys2, h5, l5⟩, gd.wo lsg, by omega, by rw [List.length_append, List.length_singleton]; omega, ?_, by omega, by have := wi.fl; omega⟩
      have ww := wi.ww
      have e1 : BB.wvs (n' + 1) (pre ++ s :: g :: post) = BB.wv (pre ++ s :: g :: post) pre.length :: BB.wvs n' (BB.wo (pre ++ s :: g :: post) pre.length) := by
        show (if pre ++ s :: g :: post = [] then _ else _) = _
        rw [if_neg e0, ef]
      rw [e1] at ww
      rw [List.append_assoc]
      exact ww
    have yl : ys.length ≤ 12 := by rw [ws.1]; omega
    refine ⟨_, rfl, .inl ⟨rfl, _, SqL.of ht4⟩, _, rfl, _, _, rfl, rfl, (show (0 : Int) < 2 by decide), rfl, _, rfl, ?_⟩
    by_cases c : pre.length % 2 = 0
    · rw [decide_eq_true (show V.int ((pre.length : Int) % 2) = V.int 0 by congr 1; omega)]
      refine iteT ?_
      have e1 : BB.wv (pre ++ s :: g :: post) pre.length = (s, g.take s.length) := by unfold BB.wv; rw [if_pos c, BB.getD_pre, BB.getD_pre1]
      refine ⟨_, rfl, _, rfl, (by show 2 ≤ sizeLine; decide), fun p hp => ?_⟩
      obtain ⟨q1, q2, q3, q4⟩ := fin t1 t3 p hp (by rw [e1]; exact f14) (by rw [e1]; exact f3)
      refine ⟨t, _, _, rfl, rfl, q1, by rw [sizeLine_eq]; omega, ?_⟩
      refine ⟨_, rfl, _, rfl, rr, xs, pre, post, s, g, rfl, q2, q3, by omega, big, fun r2 ys2 H5 s5 h5 l5 => ?_⟩
      refine ⟨⟨r2, _, _, _, _, _, _, _, rfl, q4 r2 ys2 H5 s5 h5 l5⟩, ?_⟩
      show lenR [_, _, some (V.ref r2), _, _, _] _ < _
      rw [lenR_at h5, lm, l5.1, ls.1]
      have := (BB.wo_len (pre := pre) (post := post) (s := s) (g := g)).1
      omega
    · rw [decide_eq_false (show ¬ V.int ((pre.length : Int) % 2) = V.int 0 from fun z => by have := V.int.inj z; omega)]
      refine iteF ?_
      have e1 : BB.wv (pre ++ s :: g :: post) pre.length = (g.take s.length, s) := by unfold BB.wv; rw [if_neg c, BB.getD_pre, BB.getD_pre1]
      refine ⟨_, rfl, _, rfl, (by show 2 ≤ sizeLine; decide), fun p hp => ?_⟩
      obtain ⟨q1, q2, q3, q4⟩ := fin t3 t1 p hp (by rw [e1]; exact f3) (by rw [e1]; exact f14)
      refine ⟨t, _, _, rfl, rfl, q1, by rw [sizeLine_eq]; omega, ?_⟩
      refine ⟨_, rfl, _, rfl, rr, xs, pre, post, s, g, rfl, q2, q3, by omega, big, fun r2 ys2 H5 s5 h5 l5 => ?_⟩
      refine ⟨⟨r2, _, _, _, _, _, _, _, rfl, q4 r2 ys2 H5 s5 h5 l5⟩, ?_⟩
      show lenR [_, _, some (V.ref r2), _, _, _] _ < _
      rw [lenR_at h5, lm, l5.1, ls.1]
      have := (BB.wo_len (pre := pre) (post := post) (s := s) (g := g)).1
      omega
  · obtain ⟨v, e, k, tv, q1⟩ := h
    exact ⟨v, e, k, tv, hq _ _ q1⟩
end
end K33
end
section
namespace K33
open PySem PySem.Spec PyProof.Rows L2
set_option maxHeartbeats 4000000
set_option maxRecDepth 100000
set_option Elab.async false
set_option linter.unusedVariables false
/-- a list of boxes -/
def Bs (H : Hp) (ys : List V) (B : List (Int × Bool)) : Prop := ys.length = B.length ∧ ∀ (j : Nat) (z : Int × Bool), B[j]? = some z → ∃ p, ys[j]? = some (.ref p) ∧ H p = some (.tup [.int z.1, .bl z.2])
theorem Bs.keep {H H' : Hp} {ys : List V} {B : List (Int × Bool)} (t : Bs H ys B) (k : ∀ p xs, H p = some (.tup xs) → H' p = some (.tup xs)) : Bs H' ys B := ⟨t.1, fun j z e => let ⟨p, a, b⟩ := t.2 j z e; ⟨p, a, k _ _ b⟩⟩
theorem Bs.app {H : Hp} {xs ys : List V} {B C : List (Int × Bool)} (t : Bs H xs B) (u : Bs H ys C) : Bs H (xs ++ ys) (B ++ C) := by
  refine ⟨by rw [List.length_append, List.length_append, t.1, u.1], fun j r e => ?_⟩
  by_cases z : j < B.length
  · rw [List.getElem?_append_left z] at e
    obtain ⟨p, e1, e2⟩ := t.2 j r e
    exact ⟨p, by rw [List.getElem?_append_left (by rw [t.1]; exact z)]; exact e1, e2⟩
  · rw [List.getElem?_append_right (by omega)] at e
    obtain ⟨p, e1, e2⟩ := u.2 _ r e
    exact ⟨p, by rw [List.getElem?_append_right (by rw [t.1]; omega), t.1]; exact e1, e2⟩
theorem Bs.one {H : Hp} {p : Addr} {z : Int × Bool} (h : H p = some (.tup [.int z.1, .bl z.2])) : Bs H [.ref p] [z] := ⟨rfl, fun j c e => by
  match j with
  | 0 => cases e; exact ⟨p, rfl, h⟩
  | j + 1 => cases e⟩
theorem bs_get {H : Hp} {xs : List V} {B : List (Int × Bool)} (t : Bs H xs B) {i : Nat} {x : V} (h : xs[i]? = some x) : ∃ (p : Addr) (z : Int × Bool), x = .ref p ∧ B[i]? = some z ∧ H p = some (.tup [.int z.1, .bl z.2]) := by
  have il : i < B.length := by rw [← t.1]; exact (List.getElem?_eq_some_iff.mp h).1
  obtain ⟨p, e1, e2⟩ := t.2 i _ (List.getElem?_eq_getElem il)
  rw [h] at e1
  exact ⟨p, _, Option.some.inj e1, List.getElem?_eq_getElem il, e2⟩
def gapL (row : List Int) (j : Nat) : Nat := match row[j + 1]? with
  | some q => min 25 (q - row.getD j 0 - 1).toNat
  | none => 25
def boxI (row : List Int) (j : Nat) : List (Int × Bool) := (row.getD j 0, true) :: (BB.rg (row.getD j 0 + 1) (gapL row j)).map fun x => (x, false)
theorem box_all : ∀ row : List Int, (List.range row.length).flatMap (boxI row) = BB.lbx row
  | [] => rfl
  | [p] => by
    rw [show List.range [p].length = [0] from rfl, List.flatMap_cons, List.flatMap_nil, List.append_nil]
    rfl
  | p :: q :: r => by
    have ih := box_all (q :: r)
    rw [show (p :: q :: r).length = (q :: r).length + 1 from rfl, List.range_succ_eq_map, List.flatMap_cons, List.flatMap_map]
    show boxI (p :: q :: r) 0 ++ (List.range (q :: r).length).flatMap (boxI (q :: r)) = _
    rw [ih]
    rfl
theorem box_len (row : List Int) (j : Nat) : (boxI row j).length ≤ 26 := by
  unfold boxI gapL
  rw [List.length_cons, List.length_map, BB.rg_len]
  split <;> omega
theorem box_lens (row : List Int) : ∀ i, ((List.range i).flatMap (boxI row)).length ≤ 26 * i
  | 0 => Nat.le_refl _
  | i + 1 => by
    have := box_lens row i
    have := box_len row i
    rw [List.range_succ, List.flatMap_append, List.length_append, List.flatMap_cons, List.flatMap_nil, List.append_nil]
    omega
def spBoxes : Sp := fun vs H Q _ => ∃ (a : Addr) (row : List Int), vs = [.ref a] ∧ H a = some (.tup (row.map V.int)) ∧ row.Pairwise (· < ·) ∧ row.length ≤ 12 ∧
  ∀ (r : Addr) (ys : List V) (H' : Hp), Same H H' → H' r = some (.lst ys) → Bs H' ys (BB.lbx row) → Q (.ref r) H'
section
variable {P : Program} {w : World} {K : PySem.W.Frag} {mg : Str → Option Value} {base : Heap}
set_option maxRecDepth 100000 in
theorem ok_L_boxes {f : Addr} {fd : FuncData} (F : Fun K "_law_boxes" "_law_boxes" s_L_boxes f fd) (nb : NbE mg)   :
    FnOk P w K mg base CX0 1 f fd ["_law_row_here"] spBoxes := by
  have nd := sc_L_boxes.nd
  refine F.ok (k := 0) sc_L_boxes (fun vs H Q E h => ?_) (fun cdv A outer s H vs Q E hr h => ?_)
  · obtain ⟨a, row, rfl, _⟩ := h
    rfl
  obtain ⟨a, row, rfl, ha, up, r12, q⟩ := h
  refine ⟨_, (pss_cons (ps_set (i := 1) nd rfl (Or.inl rfl) (pe_lst pa_nil))
(pss_cons (ps_for PassesOwn.never rfl (pi_range1 rfl nb.range (pa_cons (pe_callB call_len_seq rfl nb.len PySem.boot_len (pa_cons (pv 0) pa_nil)) pa_nil)) (pg_name (i := 2) nd rfl (Or.inr rfl))
(pss_cons (ps_expr (pe_bm PySem.F.plainAttrs_list PySem.F.slot_list_append PySem.F.type_list_append mt_append (pv 1) (pa_cons (pe_tup (pa_cons (pe_ix ix_tup (pv 0) (pv 2) (fun _ _ => rfl)) (pa_cons pe_bl pa_nil))) pa_nil)))
(pss_cons (ps_set (i := 3) nd rfl (Or.inl rfl) pe_int)
(pss_cons (ps_if (pt_cmpR op_lt (pe_op op_add (pv 2) pe_int) (pe_callB call_len_seq rfl nb.len PySem.boot_len (pa_cons (pv 0) pa_nil)) (nomark _))
(pss_one (ps_set (i := 3) nd rfl (Or.inl rfl) (pe_callB (call_min2 rfl) rfl nb.min boot_min (pa_cons pe_int (pa_cons (pe_op op_sub (pe_op op_sub (pe_ix ix_tup (pv 0) (pe_op op_add (pv 2) pe_int) (fun _ _ => rfl)) (pe_ix ix_tup (pv 0) (pv 2) (fun _ _ => rfl))) pe_int) pa_nil)))))
pss_nil)
(pss_one (ps_expr (pe_bm PySem.F.plainAttrs_list PySem.F.slot_list_extend PySem.F.type_list_extend mt_extend (pv 1) (pa_cons (pe_comp1 (sc := defScope s_L_boxes) (N0 := ["_law_row_here", "_law_found", "_law_k", "_law_gap"]) (N := ["_law_row_here", "_law_k"]) (js := [0, 2]) rfl rfl rfl (by exact ⟨rfl, by decide +kernel, by decide +kernel, by decide +kernel, rfl, rfl, by decide, by decide +kernel, by decide +kernel⟩) rfl
(pi_range1 rfl nb.range (pa_cons (pv 3) pa_nil))
(fun _ _ _ _ _ => by exact pts_nil)
(fun _ _ _ _ _ => by exact (pe_tup (pa_cons (pe_op op_add (pe_op op_add (pe_ix (show IxR _ (rIxT K) from ix_tup) (pv 1) (pv 2) (fun _ _ => rfl)) pe_int) (pv 0)) (pa_cons pe_bl pa_nil))))) pa_nil))))))))
(pss_one (ps_ret (pv 1))))), ?_⟩
  refine ⟨(by show 0 ≤ sizeLine; decide), fun f hf => ?_⟩
  have s1 := same_new hf (.lst [])
  have ml : (row.map V.int).length = row.length := List.length_map ..
  refine ⟨_, rfl, a, _, rfl, .inr (SqT.of (s1 _ _ ha)), _, rfl, by omega, by omega, ?_⟩
  rw [show (((row.map V.int).length : Int)).toNat = row.length by rw [ml]; omega]
  refine for_range (fun i σ H' => ∃ o2 o3 ys, σ = [some (.ref a), some (.ref f), o2, o3] ∧ Same H H' ∧ H' f = some (.lst ys) ∧ Bs H' ys ((List.range i).flatMap (boxI row))) ⟨_, _, [], rfl, s1, upd_same, rfl, fun j z e => by cases e⟩ (fun i σ H' hi hp => ?_) (fun σ H' hp => ?_)
  · obtain ⟨o2, o3, ys, rfl, sm, hy, bs⟩ := hp
    have bl := box_lens row i
    rw [← bs.1] at bl
    have i12 : i < 12 := by omega
    have ia : (row.map V.int)[i]? = some (.int (row.getD i 0)) := by rw [List.getElem?_map, List.getElem?_eq_getElem hi, List.getD_eq_getElem?_getD, List.getElem?_eq_getElem hi]; rfl
    have a0 : atI (row.map V.int) (0 + (i : Int)) = some (.int (row.getD i 0)) := by rw [Int.zero_add]; exact atI_nat ia
    have tk : ∀ {G : Hp} {zs : List V} {o : HO} {q : Addr} {cs : List V}, G f = some (.lst zs) → G q = some (.tup cs) → (upd G f o) q = some (.tup cs) := fun {G zs o q cs} e h => by
      rw [upd_ne (fun z => by rw [z, e] at h; cases h)]
      exact h
    -- the ball
    refine ⟨_, rfl, .inl ⟨rfl, _, SqL.of hy⟩, _, rfl, _, rfl, a, _, _, _, rfl, rfl, SqT.of (sm _ _ ha), a0, (by show 2 ≤ sizeLine; decide), fun p hp => ?_⟩
    have k1 := same_new hp (.tup [.int (row.getD i 0), .bl true])
    refine ⟨f, _, _, rfl, rfl, k1 _ _ hy, by rw [sizeLine_eq]; omega, ?_⟩
    have f1 : (upd H' p (.tup [.int (row.getD i 0), .bl true])) p = some (.tup [.int (row.getD i 0), .bl true]) := upd_same
    have b1 : Bs (upd (upd H' p (.tup [.int (row.getD i 0), .bl true])) f (.lst (ys ++ [.ref p]))) (ys ++ [.ref p]) ((List.range i).flatMap (boxI row) ++ [(row.getD i 0, true)]) := (bs.keep fun q cs h => tk (k1 _ _ hy) (k1 _ _ h)).app (Bs.one (tk (k1 _ _ hy) f1))
    have sm1 : Same H (upd (upd H' p (.tup [.int (row.getD i 0), .bl true])) f (.lst (ys ++ [.ref p]))) := fun c o e => by
      rw [upd_ne (ne_of_none e hf)]
      exact k1 _ _ (sm _ _ e)
    have hy1 : (upd (upd H' p (.tup [.int (row.getD i 0), .bl true])) f (.lst (ys ++ [.ref p]))) f = some (.lst (ys ++ [.ref p])) := upd_same
    generalize upd (upd H' p (.tup [.int (row.getD i 0), .bl true])) f (.lst (ys ++ [.ref p])) = H1 at b1 sm1 hy1 ⊢
    -- the gap
    have go : ∀ G : Int, G = (gapL row i : Int) → G ≤ 25 ∧ 0 ≤ G := fun G e => by
      rw [e]
      unfold gapL
      split <;> omega
    refine ⟨_, rfl, _, _, rfl, rfl, _, rfl, a, _, rfl, .inr (SqT.of (sm1 _ _ ha)), _, _, rfl, rfl, _, rfl, ?_⟩
    by_cases c : i + 1 < row.length
    · rw [decide_eq_true (show 0 + (i : Int) + 1 < ((row.map V.int).length : Int) by rw [ml]; omega)]
      refine iteT ?_
      have ib : (row.map V.int)[i + 1]? = some (.int (row.getD (i + 1) 0)) := by rw [List.getElem?_map, List.getElem?_eq_getElem c, List.getD_eq_getElem?_getD, List.getElem?_eq_getElem c]; rfl
      have a1 : atI (row.map V.int) (0 + (i : Int) + 1) = some (.int (row.getD (i + 1) 0)) := by rw [show 0 + (i : Int) + 1 = ((i + 1 : Nat) : Int) by omega]; exact atI_nat ib
      refine ⟨_, rfl, _, rfl, _, _, rfl, rfl, a, _, _, _, rfl, rfl, SqT.of (sm1 _ _ ha), a1, _, rfl, _, rfl, a, _, _, _, rfl, rfl, SqT.of (sm1 _ _ ha), a0, _, _, rfl, rfl, _, _, rfl, rfl, _, _, rfl, ?_⟩
      have lt : row.getD i 0 < row.getD (i + 1) 0 := by
        rw [List.getD_eq_getElem?_getD, List.getD_eq_getElem?_getD, List.getElem?_eq_getElem hi, List.getElem?_eq_getElem c]
        exact List.pairwise_iff_getElem.mp up i (i + 1) hi c (by omega)
      have eG : (if row.getD (i + 1) 0 - row.getD i 0 - 1 < 25 then row.getD (i + 1) 0 - row.getD i 0 - 1 else 25) = (gapL row i : Int) := by
        unfold gapL
        rw [List.getElem?_eq_getElem c]
        show _ = ((min 25 (row[i + 1] - row.getD i 0 - 1).toNat : Nat) : Int)
        rw [show row[i + 1] = row.getD (i + 1) 0 by rw [List.getD_eq_getElem?_getD, List.getElem?_eq_getElem c]; rfl]
        split <;> omega
      have gG := go _ eG
      refine ⟨_, rfl, .inl ⟨rfl, _, SqL.of hy1⟩, _, rfl, _, rfl, by omega, by omega, fun D hD => ?_⟩
      rw [eG, show ((gapL row i : Nat) : Int).toNat = gapL row i from Int.toNat_natCast _]
      refine comp_tups (gapL row i) (by rw [sizeLine_eq]; omega) (fun j => [.int (row.getD i 0 + 1 + (0 + (j : Int))), .bl false]) (fun σ => ∃ o1, σ = [o1, some (.ref a), some (.int (0 + (i : Int)))]) (fun j H' x => x = .int (0 + (j : Int))) hD (by exact ⟨_, rfl⟩) (fun j H2 _ => items_rng 0 _ j H2 (Same.refl _)) (fun j x σ' H2 hj s2 im hσ R hR => ?_) (fun H3 zs s3 hD3 lz hz => ?_)
      · obtain ⟨o1, rfl⟩ := hσ
        subst im
        exact ⟨_, rfl, _, rfl, a, _, _, _, rfl, rfl, SqT.of (s2 _ _ (sm1 _ _ ha)), a0, _, _, rfl, rfl, _, rfl, _, _, rfl, rfl, (by show 2 ≤ sizeLine; decide), fun p hp => hR _ p _ ⟨_, rfl⟩ (same_new hp _) upd_same⟩
      have hy3 := s3 _ _ hy1
      refine ⟨f, D, _, _, rfl, rfl, hy3, hD3, by rw [List.length_append, lz, sizeLine_eq]; show _ + 1 + _ ≤ _; omega, ?_⟩
      refine ⟨_, _, _, rfl, fun c o e => ?_, upd_same, ?_⟩
      · rw [upd_ne (ne_of_none e hf)]
        exact s3 _ _ (sm1 _ _ e)
      · rw [List.range_succ, List.flatMap_append, List.flatMap_cons, List.flatMap_nil, List.append_nil, show boxI row i = [(row.getD i 0, true)] ++ (BB.rg (row.getD i 0 + 1) (gapL row i)).map fun x => (x, false) from rfl, ← List.append_assoc]
        refine (b1.keep fun q cs h => tk hy3 (s3 _ _ h)).app ⟨by rw [lz, List.length_map, BB.rg_len], fun j z e => ?_⟩
        unfold BB.rg at e
        rw [List.map_map, List.getElem?_map] at e
        obtain ⟨j', ej, e⟩ := Option.map_eq_some_iff.mp e
        have jl : j < gapL row i := by have := (List.getElem?_eq_some_iff.mp ej).1; rw [List.length_range] at this; exact this
        rw [List.getElem?_range jl] at ej
        cases ej
        have jz := List.getElem?_eq_getElem (show j < zs.length by omega)
        obtain ⟨p', e1, e2⟩ := hz j _ jz
        refine ⟨p', by rw [jz, e1], ?_⟩
        have e3 := tk (o := .lst (ys ++ [.ref p] ++ zs)) hy3 e2
        rw [Int.zero_add] at e3
        rw [← e]
        exact e3
    · rw [decide_eq_false (show ¬ 0 + (i : Int) + 1 < ((row.map V.int).length : Int) by rw [ml]; omega)]
      refine iteF ?_
      have eG : (25 : Int) = (gapL row i : Int) := by
        unfold gapL
        rw [List.getElem?_eq_none (by omega)]
        rfl
      have gG := go _ eG
      refine ⟨_, rfl, .inl ⟨rfl, _, SqL.of hy1⟩, _, rfl, _, rfl, by omega, by omega, fun D hD => ?_⟩
      rw [eG, show ((gapL row i : Nat) : Int).toNat = gapL row i from Int.toNat_natCast _]
      refine comp_tups (gapL row i) (by rw [sizeLine_eq]; omega) (fun j => [.int (row.getD i 0 + 1 + (0 + (j : Int))), .bl false]) (fun σ => ∃ o1, σ = [o1, some (.ref a), some (.int (0 + (i : Int)))]) (fun j H' x => x = .int (0 + (j : Int))) hD (by exact ⟨_, rfl⟩) (fun j H2 _ => items_rng 0 _ j H2 (Same.refl _)) (fun j x σ' H2 hj s2 im hσ R hR => ?_) (fun H3 zs s3 hD3 lz hz => ?_)
      · obtain ⟨o1, rfl⟩ := hσ
        subst im
        exact ⟨_, rfl, _, rfl, a, _, _, _, rfl, rfl, SqT.of (s2 _ _ (sm1 _ _ ha)), a0, _, _, rfl, rfl, _, rfl, _, _, rfl, rfl, (by show 2 ≤ sizeLine; decide), fun p hp => hR _ p _ ⟨_, rfl⟩ (same_new hp _) upd_same⟩
      have hy3 := s3 _ _ hy1
      refine ⟨f, D, _, _, rfl, rfl, hy3, hD3, by rw [List.length_append, lz, sizeLine_eq]; show _ + 1 + _ ≤ _; omega, ?_⟩
      refine ⟨_, _, _, rfl, fun c o e => ?_, upd_same, ?_⟩
      · rw [upd_ne (ne_of_none e hf)]
        exact s3 _ _ (sm1 _ _ e)
      · rw [List.range_succ, List.flatMap_append, List.flatMap_cons, List.flatMap_nil, List.append_nil, show boxI row i = [(row.getD i 0, true)] ++ (BB.rg (row.getD i 0 + 1) (gapL row i)).map fun x => (x, false) from rfl, ← List.append_assoc]
        refine (b1.keep fun q cs h => tk hy3 (s3 _ _ h)).app ⟨by rw [lz, List.length_map, BB.rg_len], fun j z e => ?_⟩
        unfold BB.rg at e
        rw [List.map_map, List.getElem?_map] at e
        obtain ⟨j', ej, e⟩ := Option.map_eq_some_iff.mp e
        have jl : j < gapL row i := by have := (List.getElem?_eq_some_iff.mp ej).1; rw [List.length_range] at this; exact this
        rw [List.getElem?_range jl] at ej
        cases ej
        have jz := List.getElem?_eq_getElem (show j < zs.length by omega)
        obtain ⟨p', e1, e2⟩ := hz j _ jz
        refine ⟨p', by rw [jz, e1], ?_⟩
        have e3 := tk (o := .lst (ys ++ [.ref p] ++ zs)) hy3 e2
        rw [Int.zero_add] at e3
        rw [← e]
        exact e3
  · obtain ⟨o2, o3, ys, rfl, sm, hy, bs⟩ := hp
    rw [box_all] at bs
    exact ⟨_, rfl, q f ys H' sm hy bs⟩
end
end K33
end
section
namespace K33
open PySem PySem.Spec PyProof.Rows L2
set_option maxHeartbeats 4000000
set_option maxRecDepth 100000
set_option Elab.async false
set_option linter.unusedVariables false
/-- runs with their sorts: H0 ahead, f the list, ls the lists of places -/
structure Rs (H0 H : Hp) (f : Addr) (G : List (Bool × List Int)) (ys : List V) (ls : List Addr) : Prop where
  sm : Same H0 H
  f0 : H0 f = none
  hf : H f = some (.lst ys)
  ly : ys.length = G.length
  ll : ls.length = G.length
  nd : ls.Nodup
  nf : f ∉ ls
  l0 : ∀ l ∈ ls, H0 l = none
  at_ : ∀ (j : Nat) (z : Bool × List Int) (l : Addr), G[j]? = some z → ls[j]? = some l → ∃ p, ys[j]? = some (.ref p) ∧ H p = some (.tup [.bl z.1, .ref l]) ∧ H l = some (.lst (z.2.map V.int))
theorem Rs.put {H0 H : Hp} {f : Addr} {acc : List (Bool × List Int)} {b : Bool} {r : List Int} {ys : List V} {ls : List Addr} (t : Rs H0 H f (acc ++ [(b, r)]) ys ls) : ∃ pl l, atI ys (-1) = some (.ref pl) ∧ H pl = some (.tup [.bl b, .ref l]) ∧ H l = some (.lst (r.map V.int)) ∧ ∀ x : Int, Rs H0 (upd H l (.lst (r.map V.int ++ [.int x]))) f (acc ++ [(b, r ++ [x])]) ys ls := by
  have ly := t.ly
  have ll := t.ll
  rw [List.length_append, List.length_singleton] at ly ll
  have jl : acc.length < ls.length := by omega
  have ez : (acc ++ [(b, r)])[acc.length]? = some (b, r) := by rw [List.getElem?_append_right (Nat.le_refl _), Nat.sub_self]; rfl
  have el := List.getElem?_eq_getElem jl
  obtain ⟨pl, e1, e2, e3⟩ := t.at_ acc.length _ _ ez el
  have yl : ∃ ys', ys = ys' ++ [.ref pl] := by
    rcases List.eq_nil_or_concat ys with z | ⟨ys', v, z⟩
    · rw [z] at ly; simp at ly
    · rw [List.concat_eq_append] at z
      refine ⟨ys', ?_⟩
      rw [z]
      rw [z, List.length_append, List.length_singleton] at ly
      rw [z, List.getElem?_append_right (by omega), show acc.length - ys'.length = 0 by omega] at e1
      rw [show v = V.ref pl from Option.some.inj e1]
  obtain ⟨ys', ey⟩ := yl
  have lm : ls[acc.length] ∈ ls := List.getElem_mem jl
  refine ⟨pl, ls[acc.length], by rw [ey]; exact atI_last _ _, e2, e3, fun x => ⟨fun c o e => ?_, t.f0, ?_, by rw [t.ly, List.length_append, List.length_append]; rfl, by rw [t.ll, List.length_append, List.length_append]; rfl, t.nd, t.nf, t.l0, fun j z l ej elj => ?_⟩⟩
  · rw [upd_ne (ne_of_none e (t.l0 _ lm))]
    exact t.sm _ _ e
  · rw [upd_ne (fun w => t.nf (by rw [w]; exact lm))]
    exact t.hf
  · by_cases c : j < acc.length
    · rw [List.getElem?_append_left c] at ej
      obtain ⟨p, g1, g2, g3⟩ := t.at_ j z l (by rw [List.getElem?_append_left c]; exact ej) elj
      refine ⟨p, g1, ?_, ?_⟩
      · rw [upd_ne (fun w => by rw [w, e3] at g2; cases g2)]
        exact g2
      · rw [upd_ne (fun w => ?_)]
        · exact g3
        · have jl2 := (List.getElem?_eq_some_iff.mp elj).1
          rw [List.getElem?_eq_getElem jl2] at elj
          have e4 : ls[j] = ls[acc.length] := (Option.some.inj elj).trans w
          have := (List.getElem_inj t.nd).mp e4
          omega
    · have jj : j = acc.length := by
        have := (List.getElem?_eq_some_iff.mp ej).1
        rw [List.length_append, List.length_singleton] at this
        omega
      subst jj
      rw [List.getElem?_append_right (Nat.le_refl _), Nat.sub_self] at ej
      cases ej
      rw [el] at elj
      cases elj
      refine ⟨pl, e1, ?_, by rw [upd_same, List.map_append]; rfl⟩
      rw [upd_ne (fun w => by rw [w, e3] at e2; cases e2)]
      exact e2
theorem Rs.new {H0 H : Hp} {f l p : Addr} {G : List (Bool × List Int)} {ys : List V} {ls : List Addr} (b : Bool) (t : Rs H0 H f G ys ls) (hl : H l = none) (hp : (upd H l (.lst [])) p = none) :
    (upd (upd H l (.lst [])) p (.tup [.bl b, .ref l])) f = some (.lst ys) ∧ Rs H0 (upd (upd (upd H l (.lst [])) p (.tup [.bl b, .ref l])) f (.lst (ys ++ [.ref p]))) f (G ++ [(b, [])]) (ys ++ [.ref p]) (ls ++ [l]) := by
  have k := (same_new hl (.lst [])).trans (same_new hp (.tup [.bl b, .ref l]))
  have lf : l ≠ f := (ne_of_none t.hf hl).symm
  have pf : p ≠ f := fun w => by rw [w, same_new hl _ _ _ t.hf] at hp; cases hp
  have pl : p ≠ l := fun w => by rw [w, upd_same] at hp; cases hp
  have nl : l ∉ ls := fun w => by
    obtain ⟨j, hj, e⟩ := List.getElem_of_mem w
    have hj2 : j < G.length := by rw [← t.ll]; exact hj
    obtain ⟨_, _, _, g3⟩ := t.at_ j _ _ (List.getElem?_eq_getElem hj2) (List.getElem?_eq_getElem hj)
    rw [e, hl] at g3
    cases g3
  have fz : ∀ (j : Nat) (z : Bool × List Int) (l' : Addr), G[j]? = some z → ls[j]? = some l' → l' ≠ f := fun j z l' _ e w => t.nf (by rw [← w]; exact List.mem_of_getElem? e)
  refine ⟨k _ _ t.hf, fun c o e => ?_, t.f0, upd_same, by rw [List.length_append, List.length_append, t.ly]; rfl, by rw [List.length_append, List.length_append, t.ll]; rfl, ?_, ?_, ?_, fun j z l' ej el => ?_⟩
  · rw [upd_ne (ne_of_none e t.f0)]
    exact k _ _ (t.sm _ _ e)
  · refine List.nodup_append.mpr ⟨t.nd, List.pairwise_singleton _ _, fun x hx y hy e => ?_⟩
    rw [List.mem_singleton] at hy
    subst hy
    exact nl (e ▸ hx)
  · intro w
    rcases List.mem_append.mp w with z | z
    · exact t.nf z
    · exact lf (List.mem_singleton.mp z).symm
  · intro x hx
    rcases List.mem_append.mp hx with z | z
    · exact t.l0 x z
    · rw [List.mem_singleton.mp z]
      cases e9 : H0 l with
      | none => rfl
      | some o => rw [t.sm _ _ e9] at hl; cases hl
  · by_cases c : j < G.length
    · rw [List.getElem?_append_left c] at ej
      rw [List.getElem?_append_left (by rw [t.ll]; exact c)] at el
      obtain ⟨q, g1, g2, g3⟩ := t.at_ j z l' ej el
      refine ⟨q, by rw [List.getElem?_append_left (by rw [t.ly]; exact c)]; exact g1, ?_, ?_⟩
      · rw [upd_ne (fun w => by rw [w, t.hf] at g2; cases g2)]
        exact k _ _ g2
      · rw [upd_ne (fz j z l' ej el)]
        exact k _ _ g3
    · have jj : j = G.length := by
        have := (List.getElem?_eq_some_iff.mp ej).1
        rw [List.length_append, List.length_singleton] at this
        omega
      subst jj
      rw [List.getElem?_append_right (Nat.le_refl _), Nat.sub_self] at ej
      cases ej
      rw [← t.ll, List.getElem?_append_right (Nat.le_refl _), Nat.sub_self] at el
      cases el
      refine ⟨p, by rw [← t.ly, List.getElem?_append_right (Nat.le_refl _), Nat.sub_self]; rfl, by rw [upd_ne pf, upd_same], by rw [upd_ne lf, upd_ne pl.symm, upd_same]; rfl⟩
theorem Rs.same {H0 H H' : Hp} {f : Addr} {G : List (Bool × List Int)} {ys : List V} {ls : List Addr} (t : Rs H0 H f G ys ls) (s : Same H H') : Rs H0 H' f G ys ls :=
  ⟨t.sm.trans s, t.f0, s _ _ t.hf, t.ly, t.ll, t.nd, t.nf, t.l0, fun j z l a b => let ⟨p, c, d, e⟩ := t.at_ j z l a b; ⟨p, c, s _ _ d, s _ _ e⟩⟩
def spRn : Sp := fun vs H Q _ => ∃ (a : Addr) (xs : List V) (B : List (Int × Bool)), vs = [.ref a] ∧ H a = some (.lst xs) ∧ Bs H xs B ∧ B.length ≤ 1000 ∧
  ∀ (f : Addr) (ys : List V) (ls : List Addr) (H' : Hp), Rs H H' f (BB.grp B) ys ls → Q (.ref f) H'
theorem gin_len (G : List (Bool × List Int)) (z : Int × Bool) : (BB.gin G z).length ≤ G.length + 1 := by
  unfold BB.gin
  split
  · rename_i e
    have n0 : G ≠ [] := fun w => by rw [w] at e; cases e
    have := List.length_pos_iff.mpr n0
    split
    · rw [List.length_append, List.length_dropLast, List.length_singleton]; omega
    · rw [List.length_append]; exact Nat.le_refl _
  · simp
theorem gin_same (acc : List (Bool × List Int)) (b : Bool) (r : List Int) (x : Int) : BB.gin (acc ++ [(b, r)]) (x, b) = acc ++ [(b, r ++ [x])] := by
  unfold BB.gin
  rw [List.getLast?_concat]
  show (if b = b then _ else _) = _
  rw [if_pos rfl, List.dropLast_concat]
theorem gin_same' {acc : List (Bool × List Int)} {b : Bool} {r : List Int} {z : Int × Bool} (c : b = z.2) : BB.gin (acc ++ [(b, r)]) z = acc ++ [(b, r ++ [z.1])] := by
  obtain ⟨x, b'⟩ := z
  cases (show b = b' from c)
  exact gin_same acc b r x
theorem gin_diff {G : List (Bool × List Int)} {z : Int × Bool} (h : ∀ x, G.getLast? = some x → x.1 ≠ z.2) : BB.gin G z = G ++ [(z.2, [] ++ [z.1])] := by
  unfold BB.gin
  cases c : G.getLast? with
  | none => rw [List.getLast?_eq_none_iff.mp c]; rfl
  | some x => exact if_neg (h x c)
theorem gin_lens {G : List (Bool × List Int)} {i : Nat} (z : Int × Bool) (h : ∀ x ∈ G, x.2.length ≤ i) : ∀ x ∈ BB.gin G z, x.2.length ≤ i + 1 := by
  rcases List.eq_nil_or_concat G with e | ⟨acc, u, e⟩
  · subst e
    intro x hx
    rw [gin_diff (fun x hx => by cases hx)] at hx
    rw [List.mem_singleton.mp hx]
    show 1 ≤ i + 1
    omega
  · rw [List.concat_eq_append] at e
    obtain ⟨b, r⟩ := u
    subst e
    by_cases c : b = z.2
    · obtain ⟨x, b'⟩ := z
      cases (show b = b' from c)
      rw [gin_same]
      intro y hy
      rcases List.mem_append.mp hy with w | w
      · have := h y (List.mem_append_left _ w); omega
      · rw [List.mem_singleton.mp w]
        have := h (b, r) (by simp)
        show (r ++ [x]).length ≤ _
        rw [List.length_append, List.length_singleton]
        have : r.length ≤ i := this
        omega
    · rw [gin_diff (fun x hx => by rw [List.getLast?_concat] at hx; cases hx; exact c)]
      intro y hy
      rcases List.mem_append.mp hy with w | w
      · have := h y w; omega
      · rw [List.mem_singleton.mp w]
        show 1 ≤ i + 1
        omega
section
variable {P : Program} {w : World} {K : PySem.W.Frag} {mg : Str → Option Value} {base : Heap}
set_option maxRecDepth 100000 in
theorem ok_L_runs {f : Addr} {fd : FuncData} (F : Fun K "_law_runs" "_law_runs" s_L_runs f fd) (nb : NbE mg)   :
    FnOk P w K mg base CX0 1 f fd ["_law_boxes_here"] spRn := by
  have nd := sc_L_runs.nd
  refine F.ok (k := 0) sc_L_runs (fun vs H Q E h => ?_) (fun cdv A outer s H vs Q E hr h => ?_)
  · obtain ⟨a, xs, B, rfl, _⟩ := h
    rfl
  obtain ⟨a, xs, B, rfl, ha, bs, bl, q⟩ := h
  refine ⟨_, (pss_cons (ps_set (i := 1) nd rfl (Or.inl rfl) (pe_lst pa_nil))
(pss_cons (ps_for PassesOwn.never rfl (pi_list (pv 0)) (pg_tup rfl (pgs_cons (pg_name (i := 2) nd rfl (Or.inl rfl)) (pgs_cons (pg_name (i := 3) nd rfl (Or.inl rfl)) pgs_nil)))
(pss_cons (ps_if (PW.pt (pw_or (pt_cmpR (op_eqNil hr.units0) (pv 1) (pe_lst pa_nil) (nomark _)) (pw_or1 (pt_cmpR op_ne (pe_ix ix_tup (pe_ix ix_list (pv 1) (pe_un un_neg pe_int) (fun _ _ => rfl)) pe_int (fun _ _ => rfl)) (pv 3) (nomark _)))))
(pss_one (ps_expr (pe_bm PySem.F.plainAttrs_list PySem.F.slot_list_append PySem.F.type_list_append mt_append (pv 1) (pa_cons (pe_tup (pa_cons (pv 3) (pa_cons (pe_lst pa_nil) pa_nil))) pa_nil))))
pss_nil)
(pss_one (ps_expr (pe_bm PySem.F.plainAttrs_list PySem.F.slot_list_append PySem.F.type_list_append mt_append (pe_ix ix_tup (pe_ix ix_list (pv 1) (pe_un un_neg pe_int) (fun _ _ => rfl)) pe_int (fun _ _ => rfl)) (pa_cons (pv 2) pa_nil))))))
(pss_one (ps_ret (pv 1))))), ?_⟩
  refine ⟨(by show 0 ≤ sizeLine; decide), fun f hf => ?_⟩
  have s1 := same_new hf (.lst [])
  have t0 : Rs H (upd H f (.lst [])) f [] [] [] := ⟨s1, hf, upd_same, rfl, rfl, .nil, List.not_mem_nil, (fun l h => by cases h), fun j z l h => by cases h⟩
  generalize upd H f (.lst []) = H1 at s1 t0 ⊢
  refine ⟨_, rfl, a, rfl, ⟨_, SqL.of (s1 _ _ ha)⟩, ?_⟩
  refine for_list (xs := xs) (fun i σ H' => ∃ o2 o3 ys ls, σ = [some (.ref a), some (.ref f), o2, o3] ∧ Rs H H' f (BB.grp (B.take i)) ys ls ∧ (BB.grp (B.take i)).length ≤ i ∧ ∀ z ∈ BB.grp (B.take i), z.2.length ≤ i) ⟨_, _, [], [], rfl, t0, Nat.le_refl _, fun z h => by cases h⟩ (fun i σ H' _ hp => ?_) (fun i x σ H' hx hp => ?_) (fun σ H' hp => ?_)
  · obtain ⟨o2, o3, ys, ls, rfl, t, _⟩ := hp
    exact SqL.of (t.sm _ _ ha)
  · obtain ⟨o2, o3, ys, ls, rfl, t, tl, tz⟩ := hp
    obtain ⟨p, z, rfl, ez, hz⟩ := bs_get bs hx
    have il : i < B.length := (List.getElem?_eq_some_iff.mp ez).1
    have eg : BB.grp (B.take (i + 1)) = BB.gin (BB.grp (B.take i)) z := by
      rw [List.take_succ, ez]
      show (B.take i ++ [z]).foldl BB.gin [] = _
      rw [List.foldl_append]
      rfl
    rw [eg]
    have gl := gin_len (BB.grp (B.take i)) z
    generalize hG : BB.grp (B.take i) = G at t tl tz eg gl ⊢
    refine ⟨p, _, rfl, SqT.of (t.sm _ _ hz), rfl, _, _, rfl, _, _, rfl, rfl, ?_⟩
    refine ⟨_, rfl, (by show 0 ≤ sizeLine; decide), fun e he => ?_⟩
    have t2 := t.same (same_new he (.lst []))
    have he2 : (upd H' e (.lst [])) e = some (.lst []) := upd_same
    generalize upd H' e (.lst []) = H2 at t2 he2 ⊢
    refine ⟨f, e, ys, rfl, rfl, SqL.of t2.hf, SqL.of he2, _, rfl, ?_⟩
    rcases List.eq_nil_or_concat G with e0 | ⟨acc, u, e0⟩
    · subst e0
      have ey : ys = [] := List.length_eq_zero_iff.mp t.ly
      subst ey
      refine iteT (iteT ?_)
      refine ⟨_, rfl, .inl ⟨rfl, _, SqL.of t2.hf⟩, _, rfl, (by show 0 ≤ sizeLine; decide), fun l3 hl3 => ⟨(by show 2 ≤ sizeLine; decide), fun p3 hp3 => ?_⟩⟩
      obtain ⟨n1, tn⟩ := t2.new z.2 hl3 hp3
      refine ⟨f, _, _, rfl, rfl, n1, by rw [t2.ly, sizeLine_eq]; omega, ?_⟩
      obtain ⟨pl9, l9, g19, g29, g39, g49⟩ := tn.put
      refine ⟨_, rfl, 1, rfl, f, _, _, _, rfl, rfl, SqL.of tn.hf, g19, pl9, _, _, _, rfl, rfl, SqT.of g29, (show atI [V.bl _, V.ref l9] ((1 : Nat) : Int) = some (.ref l9) from atI_nat rfl), .inl ⟨rfl, _, SqL.of g39⟩, _, rfl, l9, _, _, rfl, rfl, g39, by rw [List.length_map, sizeLine_eq]; show 0 + 1 ≤ _; omega, ?_⟩
      have gz := gin_lens z tz
      rw [gin_diff (fun x hx => by cases hx)] at gl gz ⊢
      exact ⟨_, _, _, _, rfl, g49 z.1, by omega, gz⟩
    · rw [List.concat_eq_append] at e0
      obtain ⟨b, r⟩ := u
      subst e0
      obtain ⟨pl, l, g1, g2, g3, g4⟩ := t2.put
      have yn : ys.isEmpty = false := by cases ys with | nil => cases g1 | cons _ _ => rfl
      rw [yn]
      refine iteF ?_
      refine ⟨_, rfl, 1, rfl, f, _, _, _, rfl, rfl, SqL.of t2.hf, g1, pl, _, _, _, rfl, rfl, SqT.of g2, (show atI [V.bl b, V.ref l] ((0 : Nat) : Int) = some (.bl b) from atI_nat rfl), _, rfl, rfl, _, rfl, ?_⟩
      have rb : r.length ≤ i := tz (b, r) (by simp)
      by_cases c : b = z.2
      · rw [decide_eq_true (congrArg V.bl c)]
        refine iteF ?_
        obtain ⟨pl9, l9, g19, g29, g39, g49⟩ := t2.put
        refine ⟨_, rfl, 1, rfl, f, _, _, _, rfl, rfl, SqL.of t2.hf, g19, pl9, _, _, _, rfl, rfl, SqT.of g29, (show atI [V.bl _, V.ref l9] ((1 : Nat) : Int) = some (.ref l9) from atI_nat rfl), .inl ⟨rfl, _, SqL.of g39⟩, _, rfl, l9, _, _, rfl, rfl, g39, by rw [List.length_map, sizeLine_eq]; omega, ?_⟩
        have gz := gin_lens z tz
        rw [gin_same' c] at gl gz ⊢
        exact ⟨_, _, _, _, rfl, g49 z.1, by omega, gz⟩
      · rw [decide_eq_false (fun w => c (V.bl.inj w))]
        refine iteT ?_
        refine ⟨_, rfl, .inl ⟨rfl, _, SqL.of t2.hf⟩, _, rfl, (by show 0 ≤ sizeLine; decide), fun l3 hl3 => ⟨(by show 2 ≤ sizeLine; decide), fun p3 hp3 => ?_⟩⟩
        obtain ⟨n1, tn⟩ := t2.new z.2 hl3 hp3
        refine ⟨f, _, _, rfl, rfl, n1, by rw [t2.ly, sizeLine_eq]; omega, ?_⟩
        obtain ⟨pl9, l9, g19, g29, g39, g49⟩ := tn.put
        refine ⟨_, rfl, 1, rfl, f, _, _, _, rfl, rfl, SqL.of tn.hf, g19, pl9, _, _, _, rfl, rfl, SqT.of g29, (show atI [V.bl _, V.ref l9] ((1 : Nat) : Int) = some (.ref l9) from atI_nat rfl), .inl ⟨rfl, _, SqL.of g39⟩, _, rfl, l9, _, _, rfl, rfl, g39, by rw [List.length_map, sizeLine_eq]; show 0 + 1 ≤ _; omega, ?_⟩
        have gz := gin_lens z tz
        rw [gin_diff (fun x hx => by rw [List.getLast?_concat] at hx; cases hx; exact c)] at gl gz ⊢
        exact ⟨_, _, _, _, rfl, g49 z.1, by omega, gz⟩
  · obtain ⟨o2, o3, ys, ls, rfl, t, _⟩ := hp
    rw [show B.take xs.length = B by rw [bs.1, List.take_length]] at t
    exact ⟨_, rfl, q f ys ls H' t⟩
end
end K33
end
section
/-! max(l, default=0) of a list of ints; l[::-1]. -/
namespace L2
open PySem PySem.Spec PyProof.Rows
set_option maxHeartbeats 4000000
set_option maxRecDepth 100000
set_option Elab.async false
section
variable {prog : Program} {w : World} {A : Around} {E : Value → Shared → Prop} {s : Shared} {I S : Addr} {d : Value} {c : Nat} {Q : PySem.Fin → Shared → Prop} {PN : Value → Sem (Option Value)}
end
end L2
end
section
namespace L2
open PySem PySem.Spec PyProof.Rows
set_option maxHeartbeats 4000000
set_option maxRecDepth 100000
set_option Elab.async false
section
variable {prog : Program} {w : World} {A : Around} {E : Value → Shared → Prop} {s : Shared}
end
section
variable {X : Cx} {e : Expr} {t : TA}
/-- l[::-1]: a new list -/
def tRevL (K : PySem.W.Frag) (te : TE) : TE := fun σ H Q => te σ H fun x H1 => ∃ a xs, x = .ref a ∧ SqL K H1 a xs ∧ ∀ p, H1 p = none → Q (.ref p) (upd H1 p (.lst xs.reverse))
theorem pe_revL {te : TE} {k : Nat} {p1 p2 p3 pos : Pos} (he : PE X e te) : PE X (.Subscript e (.Slice none none (some (.UnaryOp .USub (.Constant (.int 1) k p1) p2)) p3) pos) (tRevL X.K te) := by
  intro pins s σ H Q I h
  refine Subscript_ (thn (he pins s σ H _ I h) fun v s1 ⟨x, H1, I1, r1, q1⟩ => ?_)
  obtain ⟨a, xs, rfl, hx, q⟩ := q1
  cases (show v = Value.ref a from r1)
  refine wpAny_Slice ?_
  rw [evalPart_none]
  refine wpAny_pure (wpAny_pure ?_)
  rw [evalPart_some]
  refine thn (pe_un un_neg pe_int pins s1 σ H1 (fun w H2 => H2 = H1 ∧ w = .int (-1)) I1 ⟨1, rfl, rfl, rfl⟩) fun u s2 ⟨y, H2, I2, r2, e2, e3⟩ => ?_
  subst e2 e3
  obtain ⟨tk, rfl⟩ := (show ∃ t, u = Value.int (-1) t from r2)
  have I3 : Inv X pins σ H2 { s2 with heap := s2.heap.push { cls := .type "slice", data := .fields #[.none, .none, .int (-1) tk] } } := I2.kept (t' := s2.toks) fun b ob q => Heap.get?_push_of_some _ q
  obtain ⟨its, r, ht, hz⟩ := I3.list hx
  have hlen := r.length
  refine tail_any (ops := [.ref a, .ref s2.heap.objs.size]) ht.isList.typeIs slot_list_getitem.lookup (wpAny_getItem_list_slice ht.isList (Heap.IsSliceOf.new ..) .none .none (.int _ _) (by simp) ?_ (by rw [List.size_toArray]; omega)) (by with_unfolding_all rfl)
  rw [PySem.W.krv_pick]
  refine ⟨.ref _, _, I3.laid (t' := s2.toks) (o := .lst xs.reverse) (fun b ob q => Heap.get?_push_of_some _ q) (Nat.le_refl _) ?_, rfl, q _ (I3.hok.fresh (Nat.le_refl _))⟩
  exact ⟨by rw [List.length_reverse]; exact hz, _, 0, r.reverse, Heap.get?_push_size _ rfl⟩
end
end L2
end
section
namespace K33
open PySem PySem.Spec PyProof.Rows L2
set_option maxHeartbeats 4000000
set_option maxRecDepth 100000
set_option Elab.async false
set_option linter.unusedVariables false
theorem pt_truthK {X : Cx} {a : Expr} {ta : TE} (K : PySem.W.Frag) (hK : X.K = K) (ha : PE X a ta) (he : ∀ whole, isTrue a X.env whole = (do let v ← whole; standAt a.pos; holding [v] (truthy v))) : PT X a (fun σ H Q => ta σ H fun x H' => ∃ k, TruV K x H' k ∧ Q k H') := by
  subst hK
  exact pt_truth ha he
theorem cmpW_mono {J : It} {g : TG} {tt : TT} {te : TE} {Q Q' : VK} {D : Addr} {σ0 : L2.St} {H1 : Hp} (h : ∀ x H, Q x H → Q' x H) (c : cmpW J g tt te Q D σ0 H1) : cmpW J g tt te Q' D σ0 H1 := by
  obtain ⟨W, w0, ws⟩ := c
  refine ⟨W, w0, fun i m σ' H' w => ?_⟩
  rcases ws i m σ' H' w with ⟨a, b⟩ | b
  · exact .inl ⟨a, h _ _ b⟩
  · exact .inr b
theorem alt_get : ∀ (R : List (List Int)) (b : Bool) (j : Nat), (BB.alt b R)[j]? = (R[j]?).map fun r => (BB.par b j, r)
  | [], _, _ => rfl
  | r :: R, b, 0 => rfl
  | r :: R, b, j + 1 => alt_get R (!b) j
theorem alt_len : ∀ (R : List (List Int)) (b : Bool), (BB.alt b R).length = R.length
  | [], _ => rfl
  | r :: R, b => congrArg (· + 1) (alt_len R (!b))
/-- runs by turns, each with its sort -/
def Al (H : Hp) (zs : List V) (R : List (List Int)) : Prop := zs.length = R.length ∧ ∀ (j : Nat) (r : List Int), R[j]? = some r → ∃ p l, zs[j]? = some (.ref p) ∧ H p = some (.tup [.bl (BB.par true j), .ref l]) ∧ H l = some (.lst (r.map V.int))
theorem Al.same {H H' : Hp} {zs : List V} {R : List (List Int)} (t : Al H zs R) (s : Same H H') : Al H' zs R := ⟨t.1, fun j r e => let ⟨p, l, a, b, c⟩ := t.2 j r e; ⟨p, l, a, s _ _ b, s _ _ c⟩⟩
theorem Rs.al {H0 H : Hp} {f : Addr} {pre : List (Bool × List Int)} {R : List (List Int)} {ys : List V} {ls : List Addr} (t : Rs H0 H f (pre ++ BB.alt true R) ys ls) : Al H (ys.drop pre.length) R := by
  refine ⟨by rw [List.length_drop, t.ly, List.length_append, alt_len, Nat.add_sub_cancel_left], fun j r e => ?_⟩
  have jl : j < R.length := (List.getElem?_eq_some_iff.mp e).1
  have e1 : (pre ++ BB.alt true R)[pre.length + j]? = some (BB.par true j, r) := by
    rw [List.getElem?_append_right (by omega), Nat.add_sub_cancel_left, alt_get, e]
    rfl
  have ll := t.ll
  rw [List.length_append, alt_len] at ll
  obtain ⟨p, a, b, c⟩ := t.at_ _ _ _ e1 (List.getElem?_eq_getElem (show pre.length + j < ls.length by omega))
  exact ⟨p, _, by rw [List.getElem?_drop]; exact a, b, c⟩
theorem Al.get {H : Hp} {zs : List V} {A B : List (List Int)} {r : List Int} (t : Al H zs (A ++ r :: B)) : ∃ p l, zs[A.length]? = some (.ref p) ∧ H p = some (.tup [.bl (BB.par true A.length), .ref l]) ∧ H l = some (.lst (r.map V.int)) := t.2 A.length r (by rw [List.getElem?_append_right (Nat.le_refl _), Nat.sub_self]; rfl)
theorem Al.getD {H : Hp} {zs : List V} {R : List (List Int)} (t : Al H zs R) {j : Nat} (h : j < R.length) : ∃ p l, zs[j]? = some (.ref p) ∧ H p = some (.tup [.bl (BB.par true j), .ref l]) ∧ H l = some (.lst ((R.getD j []).map V.int)) := by
  obtain ⟨p, l, a, b, c⟩ := t.2 j _ (List.getElem?_eq_getElem h)
  exact ⟨p, l, a, b, by rw [List.getD_eq_getElem?_getD, List.getElem?_eq_getElem h]; exact c⟩
def spDue : Sp := fun vs H Q _ => ∃ (a : Addr) (row : List Int), vs = [.ref a] ∧ H a = some (.tup (row.map V.int)) ∧ row.Pairwise (· < ·) ∧ row.length ≤ 12 ∧
  ∀ (r : Addr) (ys : List V) (H' : Hp), Same H H' → H' r = some (.lst ys) → Ws H' ys (BB.wvs 12 (BB.lr 25 row)) → Q (.ref r) H'
structure Du (H0 H : Hp) (t bx : Addr) (W0 : List (List Int × List Int)) (E : List Int) (R : List (List Int)) (N n : Nat) (W : List (List Int × List Int)) : Prop where
  sm : Same H0 H
  t0 : H0 t = none
  ty : ∃ ys, H t = some (.lst ys) ∧ Ws H ys W
  by_ : ∃ xs, H bx = some (.lst xs) ∧ Bs H xs (BB.bx E R)
  nd : ((BB.bx E R).map (·.1)).Nodup
  gd : BB.Gd N R
  nn : N ≤ n
  wl : W.length + n ≤ 12
  ww : W ++ BB.wvs n R = W0
  bl : (BB.bx E R).length ≤ 400
theorem Bs.same {H H' : Hp} {ys : List V} {B : List (Int × Bool)} (t : Bs H ys B) (s : Same H H') : Bs H' ys B := t.keep fun _ _ e => s _ _ e
/-- those that hold a ball -/
def balls (B : List (Int × Bool)) : List Int := (B.filter fun z => z.2).map (·.1)
theorem balls_nil (E : List Int) : balls (BB.bx E []) = [] := by
  unfold balls BB.bx
  rw [show BB.fl true [] = [] from rfl, List.append_nil, List.filter_eq_nil_iff.mpr, List.map_nil]
  intro z hz
  obtain ⟨p, _, rfl⟩ := List.mem_map.mp hz
  exact Bool.false_ne_true
theorem balls_some {E : List Int} {r : List Int} {R : List (List Int)} (h : r ≠ []) : balls (BB.bx E (r :: R)) ≠ [] := by
  cases r with
  | nil => exact absurd rfl h
  | cons p r =>
    have : p ∈ balls (BB.bx E ((p :: r) :: R)) := List.mem_map.mpr ⟨(p, true), List.mem_filter.mpr ⟨List.mem_append_right _ (List.mem_append_left _ List.mem_cons_self), rfl⟩, rfl⟩
    intro z
    rw [z] at this
    cases this
def lenB (σ : L2.St) (H : Hp) : Nat := match σ with
  | [_, some (V.ref p), _, _, _, _, _, _] => (match H p with | some (.lst xs) => xs.length | _ => 0)
  | _ => 0
theorem lenB_at {H : Hp} {o1 o2 o3 o4 o5 o6 o7 : Option V} {p : Addr} {zs : List V} (h : H p = some (.lst zs)) : lenB [o1, some (.ref p), o2, o3, o4, o5, o6, o7] H = zs.length := by
  show (match H p with | some (.lst xs) => xs.length | _ => 0) = _
  rw [h]
theorem getD_bx {l : List (Int × Bool)} {k : Nat} {b : Int × Bool} (h : l[k]? = some b) : l.getD k (0, false) = b := by rw [List.getD_eq_getElem?_getD, h]; rfl
theorem Bs.pick {H : Hp} {xs : List V} {B : List (Int × Bool)} (t : Bs H xs B) (q : Int × Bool → Bool) : Bs H (((List.range xs.length).filter fun j => q (B.getD j (0, false))).map fun j => xs.getD j V.non) (B.filter q) := by
  have e0 := BB.sel_list (0, false) B q id
  rw [List.map_id] at e0
  rw [← e0, t.1]
  refine ⟨by rw [List.length_map, List.length_map], fun j b e => ?_⟩
  rw [List.getElem?_map] at e
  obtain ⟨i, ei, eb⟩ := Option.map_eq_some_iff.mp e
  have il : i < B.length := List.mem_range.mp (List.mem_filter.mp (List.mem_of_getElem? ei)).1
  have gi := List.getElem?_eq_getElem il
  have ebb : B[i]? = some b := by rw [gi, ← eb]; show some _ = some (id _); rw [getD_bx gi]; rfl
  obtain ⟨p, e1, e2⟩ := t.2 i b ebb
  refine ⟨p, ?_, e2⟩
  rw [List.getElem?_map, ei]
  show some (xs.getD i V.non) = _
  rw [List.getD_eq_getElem?_getD, e1]
  rfl
theorem bx_ne {H : Hp} {t bx : Addr} {ys xs : List V} {B : List (Int × Bool)} {W : List (List Int × List Int)} (hb : H bx = some (.lst xs)) (bs : Bs H xs B) (h0 : B ≠ []) (ht : H t = some (.lst ys)) (ws : Ws H ys W) : bx ≠ t := fun z => by
  rw [z, ht] at hb
  have e : ys = xs := HO.lst.inj (Option.some.inj hb)
  have r0 : 0 < B.length := List.length_pos_iff.mpr h0
  obtain ⟨p, e1, e2⟩ := bs.2 0 _ (List.getElem?_eq_getElem r0)
  have w0 : 0 < W.length := by rw [← ws.1, e, bs.1]; exact r0
  obtain ⟨q, qa, qb, f1, f2, _⟩ := ws.2 0 _ (List.getElem?_eq_getElem w0)
  rw [e, e1] at f1
  cases f1
  rw [e2] at f2
  cases f2
def stA (σ : L2.St) : Int := match σ[4]? with
  | some (some (V.int x)) => x
  | _ => 0
section
variable {P : Program} {w : World} {K : PySem.W.Frag} {mg : Str → Option Value} {base : Heap}
set_option maxRecDepth 100000 in
theorem ok_L_due {f : Addr} {fd : FuncData} (F : Fun K "_law_due" "_law_due" s_L_due f fd) (nb : NbE mg) (h_L_boxes : Has P w K mg base 1 "_law_boxes" ["_law_row_here"] spBoxes) (h_L_runs : Has P w K mg base 1 "_law_runs" ["_law_boxes_here"] spRn)  :
    FnOk P w K mg base CX0 2 f fd ["_law_row_here"] spDue := by
  have nd := sc_L_due.nd
  refine F.ok (k := 1) sc_L_due (fun vs H Q E h => ?_) (fun cdv A outer s H vs Q E hr h => ?_)
  · obtain ⟨a, row, rfl, _⟩ := h
    rfl
  obtain ⟨a, row, rfl, ha, up, r12, q⟩ := h
  refine ⟨_, (pss_cons (ps_set (i := 1) nd rfl (Or.inl rfl) (pe_def h_L_boxes hr (pa_cons (pv 0) pa_nil)))
(pss_cons (ps_set (i := 2) nd rfl (Or.inl rfl) (pe_lst pa_nil))
(pss_cons (ps_while PassesOwn.never (pt_cmpR (op_neNil hr.units0) (pe_comp2 (sc := defScope s_L_due) (N0 := ["_law_row_here", "_law_boxes_here", "_law_found", "_law_runs_here", "_law_at", "_law_many", "_law_wave", "_law_gone"]) (N := []) (js := []) rfl rfl rfl (by exact ⟨rfl, by decide +kernel, by decide +kernel, by decide +kernel, rfl, rfl, by decide, by decide +kernel, by decide +kernel⟩) rfl rfl
(pi_list (pv 1))
(fun _ _ _ _ _ => by exact (pts_one (pt_truthK K rfl (pv 1) (fun _ => rfl))))
(fun _ _ _ _ _ => by exact (pv 0))) (pe_lst pa_nil) (nomark _))
(pss_cons (ps_set (i := 3) nd rfl (Or.inl rfl) (pe_def h_L_runs hr (pa_cons (pv 1) pa_nil)))
(pss_cons (ps_mid (ps_if (pt_not (pt_truth (pe_ix ix_tup (pe_ix ix_list (pv 3) pe_int (fun _ _ => rfl)) pe_int (fun _ _ => rfl)) (fun _ => rfl)))
(pss_one (ps_set (i := 3) nd rfl (Or.inl rfl) (pe_slice sl_list (pv 3) (po_some pe_int) po_none)))
pss_nil))
(pss_cons (ps_set (i := 4) nd rfl (Or.inl rfl) pe_int)
(pss_cons (ps_while PassesOwn.never (pt_cmpR op_gt (pe_callB call_len_seq rfl nb.len PySem.boot_len (pa_cons (pe_ix ix_tup (pe_ix ix_list (pv 3) (pv 4) (fun _ _ => rfl)) pe_int (fun _ _ => rfl)) pa_nil)) (pe_callB call_len_seq rfl nb.len PySem.boot_len (pa_cons (pe_ix ix_tup (pe_ix ix_list (pv 3) (pe_op op_add (pv 4) pe_int) (fun _ _ => rfl)) pe_int (fun _ _ => rfl)) pa_nil)) (nomark _))
(pss_one (ps_set (i := 4) nd rfl (Or.inl rfl) (pe_op op_add (pv 4) pe_int))))
(pss_cons (ps_set (i := 5) nd rfl (Or.inl rfl) (pe_callB call_len_seq rfl nb.len PySem.boot_len (pa_cons (pe_ix ix_tup (pe_ix ix_list (pv 3) (pv 4) (fun _ _ => rfl)) pe_int (fun _ _ => rfl)) pa_nil)))
(pss_cons (ps_set (i := 6) nd rfl (Or.inl rfl) (pe_lst (pa_cons (pe_callTy call_tuple_of rfl nb.tuple boot_tuple (pa_cons (pe_ix ix_tup (pe_ix ix_list (pv 3) (pv 4) (fun _ _ => rfl)) pe_int (fun _ _ => rfl)) pa_nil)) (pa_cons (pe_callTy call_tuple_of rfl nb.tuple boot_tuple (pa_cons (pe_slice sl_list (pe_ix ix_tup (pe_ix ix_list (pv 3) (pe_op op_add (pv 4) pe_int) (fun _ _ => rfl)) pe_int (fun _ _ => rfl)) po_none (po_some (pv 5))) pa_nil)) pa_nil))))
(pss_cons (ps_set (i := 7) nd rfl (Or.inr rfl) (pe_op op_catA (pe_ix ix_list (pv 6) pe_int (fun _ _ => rfl)) (pe_ix ix_list (pv 6) pe_int (fun _ _ => rfl))))
(pss_cons (ps_expr (pe_bm PySem.F.plainAttrs_list PySem.F.slot_list_append PySem.F.type_list_append mt_append (pv 2) (pa_cons (pe_ifExp (pt_truth (pe_ix ix_tup (pe_ix ix_list (pv 3) (pv 4) (fun _ _ => rfl)) pe_int (fun _ _ => rfl)) (fun _ => rfl)) (pe_callTy call_tuple_of rfl nb.tuple boot_tuple (pa_cons (pv 6) pa_nil)) (pe_callTy call_tuple_of rfl nb.tuple boot_tuple (pa_cons (pe_revL (pv 6)) pa_nil))) pa_nil)))
(pss_one (ps_comp1 (ii := 1) nd rfl (Or.inl rfl) (sc := defScope s_L_due) (N0 := ["_law_row_here", "_law_boxes_here", "_law_found", "_law_runs_here", "_law_at", "_law_many", "_law_wave", "_law_gone"]) (N := ["_law_gone"]) (js := [7]) rfl rfl rfl (by exact ⟨rfl, by decide +kernel, by decide +kernel, by decide +kernel, rfl, rfl, by decide, by decide +kernel, by decide +kernel⟩) rfl
(pi_list (pv 1))
(fun _ _ _ _ _ => by exact (pts_one (pt_cmpR (op_notInK K rfl) (pe_ix (show IxR _ (rIxT K) from ix_tup) (pv 0) pe_int (fun _ _ => rfl)) (pv 1) rfl)))
(fun _ _ _ _ _ => by exact (pv 0)))))))))))))
(pss_one (ps_ret (pv 2)))))), ?_⟩
  refine ⟨_, rfl, a, row, rfl, ha, up, r12, fun b0 xs0 H1 s1 h1 bs1 => ?_⟩
  refine ⟨(by show 0 ≤ sizeLine; decide), fun t ht => ?_⟩
  have s2 := same_new ht (.lst [])
  have t00 : H t = none := by
    cases e9 : H t with
    | none => rfl
    | some o => rw [s1 _ _ e9] at ht; cases ht
  have gd := BB.lr_good (c := 25) (row := row) (by omega) up
  have eb : BB.lbx row = BB.bx [] (BB.lr 25 row) := BB.lbx_is row
  have nd0 : ((BB.bx [] (BB.lr 25 row)).map (·.1)).Nodup := by rw [← eb]; exact (BB.lbx_up up).1.imp fun h => by omega
  have bl0 : (BB.bx [] (BB.lr 25 row)).length ≤ 400 := by
    rw [← eb, ← box_all]
    have := box_lens row row.length
    omega
  have du0 : Du H (upd H1 t (.lst [])) t b0 (BB.wvs 12 (BB.lr 25 row)) [] (BB.lr 25 row) row.length 12 [] := ⟨s1.trans s2, t00, ⟨[], upd_same, rfl, fun j z e => by cases e⟩, ⟨xs0, s2 _ _ h1, by rw [← eb]; exact bs1.same s2⟩, nd0, gd, r12, Nat.le_refl _, rfl, bl0⟩
  generalize upd H1 t (.lst []) = H2 at du0 ⊢
  dsimp only
  refine seq_while ?_
  refine while_by (fun σ H' => ∃ bx E R N n W o3 o4 o5 o6 o7, σ = [some (.ref a), some (.ref bx), some (.ref t), o3, o4, o5, o6, o7] ∧ Du H H' t bx (BB.wvs 12 (BB.lr 25 row)) E R N n W) lenB ⟨b0, _, _, _, _, _, _, _, _, _, _, rfl, du0⟩ (fun σ H' hp => ?_) (fun σ H Q Q' hq h => ?_)
  · obtain ⟨bx, E, R, N, n, W, o3, o4, o5, o6, o7, rfl, du⟩ := hp
    obtain ⟨xs, hb, bs⟩ := du.by_
    obtain ⟨ys, hty, ws⟩ := du.ty
    have lm := lenB_at (o1 := some (V.ref a)) (o2 := some (V.ref t)) (o3 := o3) (o4 := o4) (o5 := o5) (o6 := o6) (o7 := o7) hb
    have bl := du.bl
    have lx := bs.1
    -- are there balls
    refine ⟨_, rfl, bx, rfl, ⟨_, SqL.of hb⟩, fun D hD => ?_⟩
    refine comp_sel xs.length (by rw [sizeLine_eq]; omega) (fun j => ((BB.bx E R).getD j (0, false)).2) (fun j => .int ((BB.bx E R).getD j (0, false)).1) (fun σ => ∃ o1 o2, σ = [o1, o2]) _ hD (by exact ⟨_, _, rfl⟩) (items_lst hb) (fun j x σ' H3 hj s3 im hσ Rr S hR hS => ?_) (fun H3 s3 hD3 => ?_)
    · obtain ⟨o1, o2, rfl⟩ := hσ
      obtain ⟨p, z, rfl, ez, hz⟩ := bs_get bs im
      rw [getD_bx ez] at hR hS
      refine ⟨p, _, rfl, SqT.of (s3 _ _ hz), rfl, _, _, rfl, _, _, rfl, rfl, ?_⟩
      refine ⟨_, rfl, z.2, rfl, ?_⟩
      cases c : z.2 with
      | true => exact iteT ⟨_, rfl, hR c _ _ _ ⟨_, _, rfl⟩ (Same.refl _) rfl⟩
      | false => exact iteF (hS c _ _ ⟨_, _, rfl⟩ (Same.refl _))
    rw [lx, BB.sel_list (0, false) (BB.bx E R) (fun z => z.2) (fun z => V.int z.1)] at hD3
    have hD4 : H3 D = some (.lst ((balls (BB.bx E R)).map V.int)) := by rw [hD3]; unfold balls; rw [List.map_map]; rfl
    refine ⟨(by show 0 ≤ sizeLine; decide), fun e he => ?_⟩
    have s4 := same_new he (.lst [])
    refine ⟨D, e, _, rfl, rfl, SqL.of (s4 _ _ hD4), SqL.of upd_same, _, rfl, ?_⟩
    have S4 := s3.trans s4
    generalize upd H3 e (.lst []) = H4 at S4 ⊢
    by_cases e0 : R = []
    · subst e0
      rw [balls_nil]
      refine iteF ?_
      have ww := du.ww
      rw [BB.wvs_nil, List.append_nil] at ww
      rw [ww] at ws
      exact ⟨_, rfl, q t ys H4 (du.sm.trans S4) (S4 _ _ hty) (ws.same S4)⟩
    have bn : balls (BB.bx E R) ≠ [] := by
      cases R with
      | nil => exact absurd rfl e0
      | cons r R => exact balls_some (du.gd.ne r List.mem_cons_self)
    have be : ((balls (BB.bx E R)).map V.int).isEmpty = false := by cases h9 : balls (BB.bx E R) with | nil => exact absurd h9 bn | cons _ _ => rfl
    rw [be]
    refine iteT ?_
    have bs4 := bs.same S4
    refine ⟨_, rfl, bx, xs, _, rfl, S4 _ _ hb, bs4, by omega, fun f ys2 ls H5 rs => ?_⟩
    rw [BB.grp_bx du.gd.ne] at rs
    have S5 := S4.trans rs.sm
    have R0 : ∃ r R', R = r :: R' := by cases R with | nil => exact absurd rfl e0 | cons r R' => exact ⟨r, R', rfl⟩
    refine ⟨fun σ' H' => ∃ rl zs o4 o5 o6 o7, σ' = [some (.ref a), some (.ref bx), some (.ref t), some (.ref rl), o4, o5, o6, o7] ∧ Same H5 H' ∧ H' rl = some (.lst zs) ∧ Al H' zs R, ?_, fun σ' H' hm => ?_⟩
    · by_cases eE : E = []
      · rw [if_pos eE] at rs
        have al := rs.al
        rw [List.length_nil, List.drop_zero] at al
        obtain ⟨p, l, g1, g2, g3⟩ := al.getD (j := 0) (List.length_pos_iff.mpr e0)
        refine ⟨_, rfl, f, _, _, _, rfl, rfl, SqL.of rs.hf, (show atI ys2 ((0 : Nat) : Int) = _ from atI_nat g1), p, _, _, _, rfl, rfl, SqT.of g2, (show atI [V.bl true, V.ref l] ((0 : Nat) : Int) = some (.bl true) from atI_nat rfl), true, rfl, iteF ?_⟩
        exact ⟨f, ys2, _, _, _, _, rfl, Same.refl _, rs.hf, al⟩
      · rw [if_neg eE] at rs
        have al := rs.al
        have g0 : ∃ p l, ys2[0]? = some (.ref p) ∧ H5 p = some (.tup [.bl false, .ref l]) := by
          have l0 : 0 < ls.length := by rw [rs.ll, List.length_append, List.length_singleton]; omega
          obtain ⟨p, a1, a2, _⟩ := rs.at_ 0 (false, E) _ rfl (List.getElem?_eq_getElem l0)
          exact ⟨p, _, a1, a2⟩
        obtain ⟨p, l, g1, g2⟩ := g0
        refine ⟨_, rfl, f, _, _, _, rfl, rfl, SqL.of rs.hf, (show atI ys2 ((0 : Nat) : Int) = _ from atI_nat g1), p, _, _, _, rfl, rfl, SqT.of g2, (show atI [V.bl false, V.ref l] ((0 : Nat) : Int) = some (.bl false) from atI_nat rfl), false, rfl, iteT ?_⟩
        refine ⟨_, rfl, _, rfl, f, _, rfl, SqL.of rs.hf, fun rl hrl => ?_⟩
        rw [show (1 : Int) = ((1 : Nat) : Int) from rfl, cut_from]
        have k := same_new hrl (.lst (ys2.drop 1))
        exact ⟨rl, _, _, _, _, _, rfl, k, upd_same, al.same k⟩
    obtain ⟨rl, zs, o4, o5, o6, o7, rfl, s6, hrl, al⟩ := hm
    have S6 := S5.trans s6
    obtain ⟨pre, s, g, post, eR, ef, lsg⟩ := du.gd.at e0
    -- where
    show tSeq (tWhile _ _) _ _ _ _
    refine seq_while ?_
    refine while_by (fun σ H7 => Same H' H7 ∧ ∃ j : Nat, σ = [some (.ref a), some (.ref bx), some (.ref t), some (.ref rl), some (.int (j : Int)), o5, o6, o7] ∧ j ≤ BB.fs R) (fun σ _ => ((BB.fs R : Int) - stA σ).toNat) ⟨Same.refl _, 0, rfl, Nat.zero_le _⟩ (fun σ H7 hp => ?_) (fun σ H Q Q' hq h => ?_)
    · obtain ⟨sm7, j, rfl, hj⟩ := hp
      have flt : BB.fs R + 1 < R.length := by rw [ef, eR]; simp only [List.length_append, List.length_cons]; omega
      obtain ⟨p1, l1, g1, g2, g3⟩ := al.getD (j := j) (by omega)
      obtain ⟨p2, l2, h1, h2, h3⟩ := al.getD (j := j + 1) (by omega)
      have ib : ∀ {b : Bool} {l : Addr}, atI [V.bl b, V.ref l] ((1 : Nat) : Int) = some (.ref l) := atI_nat rfl
      have ia : ∀ {b : Bool} {l : Addr}, atI [V.bl b, V.ref l] ((0 : Nat) : Int) = some (.bl b) := atI_nat rfl
      have at2 : atI zs ((j : Int) + 1) = some (.ref p2) := by rw [show ((j : Int) + 1) = ((j + 1 : Nat) : Int) by omega]; exact atI_nat h1
      refine ⟨_, rfl, _, rfl, rl, _, _, _, rfl, rfl, SqL.of (sm7 _ _ hrl), atI_nat g1, p1, _, _, _, rfl, rfl, SqT.of (sm7 _ _ g2), ib, l1, _, rfl, .inl (SqL.of (sm7 _ _ g3)), ?_⟩
      refine ⟨_, rfl, _, rfl, _, _, rfl, rfl, rl, _, _, _, rfl, rfl, SqL.of (sm7 _ _ hrl), at2, p2, _, _, _, rfl, rfl, SqT.of (sm7 _ _ h2), ib, l2, _, rfl, .inl (SqL.of (sm7 _ _ h3)), _, _, rfl, rfl, _, rfl, ?_⟩
      rw [List.length_map, List.length_map]
      by_cases c : j < BB.fs R
      · have := BB.fs_lt R j c
        rw [decide_eq_true (by omega)]
        refine iteT ?_
        refine ⟨_, rfl, _, _, rfl, rfl, ⟨sm7, j + 1, by rw [show ((j + 1 : Nat) : Int) = (j : Int) + 1 by omega]; rfl, c⟩, ?_⟩
        show ((BB.fs R : Int) - ((j : Int) + 1)).toNat < ((BB.fs R : Int) - (j : Int)).toNat
        omega
      have ej : j = pre.length := by omega
      subst ej
      have es : R.getD pre.length [] = s := by rw [eR]; exact BB.getD_pre _ _ _ _
      have eg : R.getD (pre.length + 1) [] = g := by rw [eR]; exact BB.getD_pre1 _ _ _ _ _
      rw [es, eg, decide_eq_false (by omega)]
      rw [es] at g3
      rw [eg] at h3
      refine iteF ?_
      have G1 := sm7 _ _ hrl
      have G2 := sm7 _ _ g2
      have G3 := sm7 _ _ g3
      have F2 := sm7 _ _ h2
      have F3 := sm7 _ _ h3
      -- the wave
      refine ⟨_, rfl, _, rfl, rl, _, _, _, rfl, rfl, SqL.of G1, atI_nat g1, p1, _, _, _, rfl, rfl, SqT.of G2, ib, l1, _, rfl, .inl (SqL.of G3), ?_⟩
      refine ⟨_, rfl, _, rfl, rl, _, _, _, rfl, rfl, SqL.of G1, atI_nat g1, p1, _, _, _, rfl, rfl, SqT.of G2, ib, l1, _, rfl, .inl ⟨SqL.of G3, fun t1 ht1 => ?_⟩⟩
      have k1 := same_new ht1 (.tup (s.map V.int))
      have f1 : (upd H7 t1 (.tup (s.map V.int))) t1 = some (.tup (s.map V.int)) := upd_same
      generalize upd H7 t1 (.tup (s.map V.int)) = H8 at k1 f1 ⊢
      refine ⟨_, rfl, _, rfl, _, _, rfl, rfl, rl, _, _, _, rfl, rfl, SqL.of (k1 _ _ G1), at2, p2, _, _, _, rfl, rfl, SqT.of (k1 _ _ F2), ib, _, rfl, _, rfl, l2, _, rfl, SqL.of (k1 _ _ F3), fun t2 ht2 => ?_⟩
      rw [List.length_map, cut_to, ← List.map_take]
      refine ⟨t2, _, rfl, .inl ⟨SqL.of upd_same, fun t3 ht3 => ?_⟩⟩
      have k3 := (same_new ht2 (.lst ((g.take s.length).map V.int))).trans (same_new ht3 (.tup ((g.take s.length).map V.int)))
      have f3 : (upd (upd H8 t2 (.lst ((g.take s.length).map V.int))) t3 (.tup ((g.take s.length).map V.int))) t3 = some (.tup ((g.take s.length).map V.int)) := upd_same
      generalize upd (upd H8 t2 (.lst ((g.take s.length).map V.int))) t3 (.tup ((g.take s.length).map V.int)) = H9 at k3 f3 ⊢
      refine ⟨(by show 2 ≤ sizeLine; decide), fun wa hwa => ?_⟩
      have k4 := same_new hwa (.lst [.ref t1, .ref t3])
      have f4 : (upd H9 wa (.lst [.ref t1, .ref t3])) wa = some (.lst [.ref t1, .ref t3]) := upd_same
      generalize upd H9 wa (.lst [.ref t1, .ref t3]) = HA at k4 f4 ⊢
      have K4 := k1.trans (k3.trans k4)
      have f14 := k4 _ _ (k3 _ _ f1)
      have f34 := k4 _ _ f3
      have w0 : atI [V.ref t1, V.ref t3] ((0 : Nat) : Int) = some (.ref t1) := atI_nat rfl
      have w1 : atI [V.ref t1, V.ref t3] ((1 : Nat) : Int) = some (.ref t3) := atI_nat rfl
      have nl : s.length ≤ 400 ∧ g.length ≤ 400 := by
        have e9 : (BB.bx E R).length = E.length + R.flatten.length := by
          unfold BB.bx
          rw [List.length_append, List.length_map, ← BB.fl_fst R true, List.length_map]
        have := BB.mem_flat (R := R) (n := 400) (by omega)
        exact ⟨this s (by rw [eR]; simp), this g (by rw [eR]; simp)⟩
      refine ⟨_, rfl, wa, _, _, _, rfl, rfl, SqL.of f4, w0, _, rfl, wa, _, _, _, rfl, rfl, SqL.of f4, w1, t1, t3, _, _, rfl, rfl, f14, f34, by rw [List.length_map, List.length_map, List.length_take, sizeLine_eq]; omega, fun ga HB sB hB => ?_⟩
      have hgo : HB ga = some (.tup ((s ++ g.take s.length).map V.int)) := by rw [hB, List.map_append]
      have K5 := K4.trans sB
      have SS := S6.trans (sm7.trans K5)
      have htB := SS _ _ hty
      have wsB := ws.same SS
      have hbB := SS _ _ hb
      have bsB := bs.same SS
      have bne : BB.bx E R ≠ [] := fun z => bn (by rw [z]; rfl)
      have rne := bx_ne hbB bsB bne htB wsB
      have gd := du.gd
      rw [eR] at gd
      have sz := (gd.size lsg).1
      have s1' : 1 ≤ s.length := List.length_pos_iff.mpr (gd.ne s (by simp))
      have nn := du.nn
      have wl := du.wl
      obtain ⟨n', en⟩ : ∃ n', n = n' + 1 := ⟨n - 1, by omega⟩
      subst en
      have yl : ys.length ≤ 12 := by rw [ws.1]; omega
      have fin : ∀ (HX : Hp) (pa pb p : Addr), Same HB HX → HX p = none → HX pa = some (.tup ((BB.wv R pre.length).1.map V.int)) → HX pb = some (.tup ((BB.wv R pre.length).2.map V.int)) →
          (upd HX p (.tup [.ref pa, .ref pb])) t = some (.lst ys) ∧ (upd (upd HX p (.tup [.ref pa, .ref pb])) t (.lst (ys ++ [.ref p]))) bx = some (.lst xs) ∧ Bs (upd (upd HX p (.tup [.ref pa, .ref pb])) t (.lst (ys ++ [.ref p]))) xs (BB.bx E R) ∧
          (upd (upd HX p (.tup [.ref pa, .ref pb])) t (.lst (ys ++ [.ref p]))) ga = some (.tup ((s ++ g.take s.length).map V.int)) ∧ Same H (upd (upd HX p (.tup [.ref pa, .ref pb])) t (.lst (ys ++ [.ref p]))) ∧
          (upd (upd HX p (.tup [.ref pa, .ref pb])) t (.lst (ys ++ [.ref p]))) t = some (.lst (ys ++ [.ref p])) ∧ Ws (upd (upd HX p (.tup [.ref pa, .ref pb])) t (.lst (ys ++ [.ref p]))) (ys ++ [.ref p]) (W ++ [BB.wv R pre.length]) := by
        intro HX pa pb p sX hp hpa hpb
        have kp := same_new hp (.tup [.ref pa, .ref pb])
        have fp : (upd HX p (.tup [.ref pa, .ref pb])) p = some (.tup [.ref pa, .ref pb]) := upd_same
        have kX := sX.trans kp
        have hpa' := kp _ _ hpa
        have hpb' := kp _ _ hpb
        generalize upd HX p (.tup [.ref pa, .ref pb]) = G at kp fp kX hpa' hpb' ⊢
        have ht' := kX _ _ htB
        have tupk : ∀ q zs, G q = some (.tup zs) → (upd G t (.lst (ys ++ [.ref p]))) q = some (.tup zs) := fun q zs e => by
          rw [upd_ne (fun z => by rw [z, ht'] at e; cases e)]
          exact e
        refine ⟨ht', by rw [upd_ne rne]; exact kX _ _ hbB, (bsB.same kX).keep tupk, tupk _ _ (kX _ _ hgo), fun c o e => ?_, upd_same, Ws.snoc ((wsB.same kX).keep tupk) (tupk _ _ fp) (tupk _ _ hpa') (tupk _ _ hpb')⟩
        rw [upd_ne (ne_of_none e du.t0)]
        exact kX _ _ (SS _ _ (du.sm _ _ e))
      have clo : ∀ (HY HC : Hp) (D p : Addr) (vs : List V), Same H HY → HY t = some (.lst (ys ++ [.ref p])) → Ws HY (ys ++ [.ref p]) (W ++ [BB.wv R pre.length]) → Same HY HC → HC D = some (.lst vs) → Bs HY vs ((BB.bx E R).filter fun z => decide (z.1 ∉ s ++ g.take s.length)) →
          Du H HC t D (BB.wvs 12 (BB.lr 25 row)) (if pre = [] then E ++ g.drop s.length else E) (BB.wo R pre.length) (N - s.length) n' (W ++ [BB.wv R pre.length]) ∧ vs.length < xs.length := by
        intro HY HC D p vs a1 a2 a3 a4 a5 a6
        have nd := du.nd
        have ww := du.ww
        have e1 : BB.wvs (n' + 1) R = BB.wv R pre.length :: BB.wvs n' (BB.wo R pre.length) := by
          show (if R = [] then _ else _) = _
          rw [if_neg e0, ef]
        rw [e1] at ww
        have lt : ((BB.bx E R).filter fun z => decide (z.1 ∉ s ++ g.take s.length)).length < (BB.bx E R).length := by
          obtain ⟨x, hx⟩ := List.exists_mem_of_length_pos s1'
          have xm : x ∈ (BB.bx E R).map (·.1) := by
            unfold BB.bx
            rw [List.map_append, BB.fl_fst, eR]
            refine List.mem_append_right _ (List.mem_flatten.mpr ⟨s, by simp, hx⟩)
          obtain ⟨z, hz, rfl⟩ := List.mem_map.mp xm
          refine Nat.lt_of_le_of_ne (List.length_filter_le _ _) fun w => ?_
          have := List.length_filter_eq_length_iff.mp w z hz
          exact of_decide_eq_true this (List.mem_append_left _ hx)
        have ndf : (((BB.bx E R).filter fun z => decide (z.1 ∉ s ++ g.take s.length)).map (·.1)).Nodup := nd.sublist (List.filter_sublist.map _)
        have lv := a6.1
        rw [eR] at nd
        have bo := BB.bx_out nd lsg
        rw [← eR] at bo
        rw [bo] at ndf lt lv
        have gw := gd.wo lsg
        rw [← eR] at gw
        refine ⟨⟨a1.trans a4, du.t0, ⟨_, a4 _ _ a2, a3.same a4⟩, ⟨vs, a5, ?_⟩, ndf, gw, by omega, by rw [List.length_append, List.length_singleton]; omega, by rw [List.append_assoc]; exact ww, by omega⟩, by omega⟩
        rw [← bo]
        exact a6.same a4
      refine ⟨_, rfl, .inl ⟨rfl, _, SqL.of htB⟩, _, rfl, _, rfl, rl, _, _, _, rfl, rfl, SqL.of (K5 _ _ G1), atI_nat g1, p1, _, _, _, rfl, rfl, SqT.of (K5 _ _ G2), ia, BB.par true pre.length, rfl, ?_⟩
      have f45 := sB _ _ f4
      by_cases c : pre.length % 2 = 0
      · rw [show BB.par true pre.length = true by rw [BB.par_even, if_pos c]]
        refine iteT ?_
        have e1 : BB.wv R pre.length = (s, g.take s.length) := by unfold BB.wv; rw [if_pos c, es, eg]
        refine ⟨_, rfl, wa, _, rfl, .inl ⟨SqL.of f45, fun p hp => ?_⟩⟩
        obtain ⟨q1, q2, q3, q4, q5, q6, q7⟩ := fin HB t1 t3 p (Same.refl _) hp (by rw [e1]; exact sB _ _ f14) (by rw [e1]; exact sB _ _ f34)
        refine ⟨t, _, _, rfl, rfl, q1, by rw [sizeLine_eq]; omega, ?_⟩
        refine ⟨_, rfl, bx, rfl, ⟨_, SqL.of q2⟩, fun D hD => ?_⟩
        refine comp_sel xs.length (by rw [sizeLine_eq]; omega) (fun j => decide (((BB.bx E R).getD j (0, false)).1 ∉ s ++ g.take s.length)) (fun j => xs.getD j .non) (fun σ => ∃ o1, σ = [o1, some (.ref ga)]) _ hD (by exact ⟨_, rfl⟩) (items_lst q2) (fun j x σ' HC hj sC im hσ Rr S hR hS => ?_) (fun HC sC hDC => ?_)
        · obtain ⟨o1, rfl⟩ := hσ
          have gj : xs.getD j .non = x := by rw [List.getD_eq_getElem?_getD, im]; rfl
          obtain ⟨px, z, rfl, ez, hz⟩ := bs_get q3 im
          rw [getD_bx ez, gj] at hR
          rw [getD_bx ez] at hS
          refine ⟨_, rfl, px, _, _, _, rfl, rfl, SqT.of (sC _ _ hz), (show atI [V.int z.1, V.bl z.2] ((0 : Nat) : Int) = some (.int z.1) from atI_nat rfl), _, rfl, ga, _, rfl, .inr (SqT.of (sC _ _ q4)), rfl, flat_nums _, _, rfl, ?_⟩
          rw [in_nums, if_pos rfl]
          by_cases m : z.1 ∈ s ++ g.take s.length
          · rw [decide_eq_true m]
            exact iteF (hS (decide_eq_false fun w => w m) _ _ ⟨_, rfl⟩ (Same.refl _))
          · rw [decide_eq_false m]
            exact iteT ⟨_, rfl, hR (decide_eq_true m) _ _ _ ⟨_, rfl⟩ (Same.refl _) rfl⟩
        obtain ⟨c1, c2⟩ := clo _ HC D p _ q5 q6 q7 sC hDC (q3.pick (fun z => decide (z.1 ∉ s ++ g.take s.length)))
        refine ⟨⟨D, _, _, _, _, _, _, _, _, _, _, rfl, c1⟩, ?_⟩
        show lenB [_, some (V.ref D), _, _, _, _, _, _] _ < _
        rw [lenB_at hDC, lm]
        exact c2
      · rw [show BB.par true pre.length = false by rw [BB.par_even, if_neg c]; rfl]
        refine iteF ?_
        have e1 : BB.wv R pre.length = (g.take s.length, s) := by unfold BB.wv; rw [if_neg c, es, eg]
        refine ⟨_, rfl, wa, _, rfl, SqL.of f45, fun rv hrv => ?_⟩
        have kr := same_new hrv (.lst [V.ref t1, V.ref t3].reverse)
        refine ⟨rv, _, rfl, .inl ⟨SqL.of upd_same, fun p hp => ?_⟩⟩
        obtain ⟨q1, q2, q3, q4, q5, q6, q7⟩ := fin _ t3 t1 p kr hp (by rw [e1]; exact kr _ _ (sB _ _ f34)) (by rw [e1]; exact kr _ _ (sB _ _ f14))
        refine ⟨t, _, _, rfl, rfl, q1, by rw [sizeLine_eq]; omega, ?_⟩
        refine ⟨_, rfl, bx, rfl, ⟨_, SqL.of q2⟩, fun D hD => ?_⟩
        refine comp_sel xs.length (by rw [sizeLine_eq]; omega) (fun j => decide (((BB.bx E R).getD j (0, false)).1 ∉ s ++ g.take s.length)) (fun j => xs.getD j .non) (fun σ => ∃ o1, σ = [o1, some (.ref ga)]) _ hD (by exact ⟨_, rfl⟩) (items_lst q2) (fun j x σ' HC hj sC im hσ Rr S hR hS => ?_) (fun HC sC hDC => ?_)
        · obtain ⟨o1, rfl⟩ := hσ
          have gj : xs.getD j .non = x := by rw [List.getD_eq_getElem?_getD, im]; rfl
          obtain ⟨px, z, rfl, ez, hz⟩ := bs_get q3 im
          rw [getD_bx ez, gj] at hR
          rw [getD_bx ez] at hS
          refine ⟨_, rfl, px, _, _, _, rfl, rfl, SqT.of (sC _ _ hz), (show atI [V.int z.1, V.bl z.2] ((0 : Nat) : Int) = some (.int z.1) from atI_nat rfl), _, rfl, ga, _, rfl, .inr (SqT.of (sC _ _ q4)), rfl, flat_nums _, _, rfl, ?_⟩
          rw [in_nums, if_pos rfl]
          by_cases m : z.1 ∈ s ++ g.take s.length
          · rw [decide_eq_true m]
            exact iteF (hS (decide_eq_false fun w => w m) _ _ ⟨_, rfl⟩ (Same.refl _))
          · rw [decide_eq_false m]
            exact iteT ⟨_, rfl, hR (decide_eq_true m) _ _ _ ⟨_, rfl⟩ (Same.refl _) rfl⟩
        obtain ⟨c1, c2⟩ := clo _ HC D p _ q5 q6 q7 sC hDC (q3.pick (fun z => decide (z.1 ∉ s ++ g.take s.length)))
        refine ⟨⟨D, _, _, _, _, _, _, _, _, _, _, rfl, c1⟩, ?_⟩
        show lenB [_, some (V.ref D), _, _, _, _, _, _] _ < _
        rw [lenB_at hDC, lm]
        exact c2
    · obtain ⟨v1, x1, v2, x2, a1, b1, c1, d1, x3, x4, x5, x6, a2, b2, c2, d2, y3, y4, y5, y6, p1, ys1, z1, z2, h⟩ := h
      obtain ⟨v3, x9, v4, xa, i1, i2, xb, xc, a3, b3, c3, d3, xd, xe, xf, xg, a4, b4, c4, d4, ya, yb, yc, yd, p2, ys2, xh, xi, j1, j2, xj, xk, k, xl, h⟩ := h
      exact ⟨v1, x1, v2, x2, a1, b1, c1, d1, x3, x4, x5, x6, a2, b2, c2, d2, y3, y4, y5, y6, p1, ys1, z1, z2, v3, x9, v4, xa, i1, i2, xb, xc, a3, b3, c3, d3, xd, xe, xf, xg, a4, b4, c4, d4, ya, yb, yc, yd, p2, ys2, xh, xi, j1, j2, xj, xk, k, xl, hq _ _ h⟩
  · obtain ⟨v, e, a1, e1, sq, h⟩ := h
    refine ⟨v, e, a1, e1, sq, fun D hD => cmpW_mono (fun x H1 hx => ?_) (h D hD)⟩
    obtain ⟨h1, h2⟩ := hx
    refine ⟨h1, fun p hp => ?_⟩
    obtain ⟨a, b, xs, e1, e2, s1, s2, k, e3, q1⟩ := h2 p hp
    exact ⟨a, b, xs, e1, e2, s1, s2, k, e3, hq _ _ q1⟩
end
end K33
end
section
namespace K33
open PySem PySem.Spec PyProof.Rows L2
set_option maxHeartbeats 4000000
set_option Elab.async false
set_option linter.unusedVariables false
theorem at_mem {xs : List V} {k : Int} (h0 : 0 ≤ k) (h1 : k < (xs.length : Int)) : ∃ u, atI xs k = some u ∧ u ∈ xs ∧ xs[k.toNat]? = some u := by
  have hk : k.toNat < xs.length := by omega
  have ek : ((k.toNat : Nat) : Int) = k := by omega
  have q : atI xs ((k.toNat : Nat) : Int) = some xs[k.toNat] := atI_nat (List.getElem?_eq_getElem hk)
  rw [ek] at q
  exact ⟨xs[k.toNat], q, List.getElem_mem hk, List.getElem?_eq_getElem hk⟩
theorem Keep.refl (a : Addr) (H : Hp) : Keep a H H := fun _ _ _ h => h
theorem Keep.trans {a : Addr} {H H1 H2 : Hp} (k : Keep a H H1) (k' : Keep a H1 H2) : Keep a H H2 := fun c o n h => k' c o n (k c o n h)
theorem Keep.same {a : Addr} {H H1 H2 : Hp} (k : Keep a H H1) (s : Same H1 H2) : Keep a H H2 := fun c o n h => s c o (k c o n h)
theorem keep_upd (a : Addr) (H : Hp) (o : HO) : Keep a H (upd H a o) := fun c u n h => by rw [upd_ne n]; exact h
theorem StAt.same {H H' : Hp} {a : Addr} {x : Int} {b : Bool} (h : StAt H a x b) (s : Same H H') : StAt H' a x b := ⟨s _ _ h.1, h.2⟩
theorem StAt.upd {H : Hp} {a : Addr} {x' : Int} {b : Bool} (d : Dok x' b) : StAt (L2.upd H a (.lst [.int x', .bl b])) a x' b := ⟨upd_same, d⟩
theorem ints_ne {ns : List Int} {x : Int} {b : Bool} : HO.lst (ns.map V.int) ≠ HO.lst [.int x, .bl b] := by
  intro e
  have e' : ns.map V.int = [.int x, .bl b] := by injection e
  cases ns with
  | nil => cases e'
  | cons n r => cases r with
    | nil => cases e'
    | cons m r => cases e'
/-- a row that is drawn -/
structure RowOk (row : List Int) : Prop where
  len : row.length ≤ 12
  up : row.Pairwise (· < ·)
  bd : ∀ p ∈ row, -20 ≤ p ∧ p ≤ 200
structure RI (H0 : Hp) (a g f : Addr) (b : Bool) (H : Hp) (place bd : Int) : Prop where
  st : ∃ x, StAt H a x b
  kp : Keep a H0 H
  gg : H g = some (.lst [.int 2, .int 5, .int 12])
  ff : ∃ row : List Int, H f = some (.lst (row.map V.int)) ∧ row.length ≤ 12 ∧ row.Pairwise (· < ·) ∧ ∀ p ∈ row, -20 ≤ p ∧ p < place
  lo : -20 ≤ place
  hi : place ≤ bd
  fa : f ≠ a
  ga : g ≠ a
  f0 : H0 f = none
  fg : g ≠ f
theorem RI.take {H0 H : Hp} {a g f : Addr} {b : Bool} {place bd x' : Int} (r : RI H0 a g f b H place bd) (d : Dok x' b) : RI H0 a g f b (upd H a (.lst [.int x', .bl b])) place bd := by
  refine ⟨⟨x', StAt.upd d⟩, r.kp.trans (keep_upd a H _), by rw [upd_ne r.ga]; exact r.gg, ?_, r.lo, r.hi, r.fa, r.ga, r.f0, r.fg⟩
  obtain ⟨row, h, z⟩ := r.ff
  exact ⟨row, by rw [upd_ne r.fa]; exact h, z⟩
theorem RI.new {H0 H : Hp} {a g f p : Addr} {b : Bool} {place bd : Int} {o : HO} (r : RI H0 a g f b H place bd) (hp : H p = none) : RI H0 a g f b (upd H p o) place bd := by
  have s := same_new hp o
  obtain ⟨row, h, z⟩ := r.ff
  obtain ⟨x, hx⟩ := r.st
  exact ⟨⟨x, hx.same s⟩, r.kp.same s, s _ _ r.gg, ⟨row, s _ _ h, z⟩, r.lo, r.hi, r.fa, r.ga, r.f0, r.fg⟩
theorem RI.go {H0 H : Hp} {a g f : Addr} {b : Bool} {place bd p' bd' : Int} (r : RI H0 a g f b H place bd) (h1 : place ≤ p') (h2 : p' ≤ bd') : RI H0 a g f b H p' bd' := by
  obtain ⟨row, h, z1, z2, z3⟩ := r.ff
  exact ⟨r.st, r.kp, r.gg, ⟨row, h, z1, z2, fun p hp => ⟨(z3 p hp).1, by have := (z3 p hp).2; omega⟩⟩, by have := r.lo; omega, h2, r.fa, r.ga, r.f0, r.fg⟩
theorem RI.app {H0 H : Hp} {a g f : Addr} {b : Bool} {place bd : Int} {row : List Int} (r : RI H0 a g f b H place bd) (h : H f = some (.lst (row.map V.int))) (z1 : row.length < 12) (z2 : row.Pairwise (· < ·)) (z3 : ∀ p ∈ row, -20 ≤ p ∧ p < place) :
    RI H0 a g f b (upd H f (.lst (row.map V.int ++ [.int place]))) (place + 1) (bd + 1) := by
  obtain ⟨x, hx⟩ := r.st
  refine ⟨⟨x, ?_, hx.2⟩, fun c o n hc => ?_, by rw [upd_ne r.fg]; exact r.gg, ⟨row ++ [place], ?_, ?_, ?_, ?_⟩, by have := r.lo; omega, by have := r.hi; omega, r.fa, r.ga, r.f0, r.fg⟩
  · rw [upd_ne (Ne.symm r.fa)]; exact hx.1
  · rw [upd_ne (ne_of_none hc r.f0)]; exact r.kp c o n hc
  · rw [upd_same, List.map_append]; rfl
  · rw [List.length_append, List.length_singleton]; omega
  · exact List.pairwise_append.mpr ⟨z2, List.pairwise_singleton _ _, fun p hp q hq => by
      have : q = place := by simpa using hq
      rw [this]; exact (z3 p hp).2⟩
  · intro p hp
    rcases List.mem_append.mp hp with h' | h'
    · have := z3 p h'; omega
    · have : p = place := by simpa using h'
      have := r.lo; omega
def spRow : Sp := fun vs H Q _ => ∃ (a g : Addr) (x : Int) (b : Bool), vs = [.ref a, .ref g] ∧ StAt H a x b ∧ H g = some (.lst [.int 2, .int 5, .int 12]) ∧
  ∀ (r : Addr) (row : List Int) (H' : Hp) (x' : Int), Keep a H H' → StAt H' a x' b → H' r = some (.tup (row.map V.int)) → RowOk row → Q (.ref r) H'
section
variable {P : Program} {w : World} {K : PySem.W.Frag} {mg : Str → Option Value} {base : Heap}
set_option maxRecDepth 100000 in
theorem ok_L_row {f : Addr} {fd : FuncData} (F : Fun K "_law_row" "_law_row" s_L_row f fd) (nb : Nb mg) (h_L_take : Has P w K mg base 1 "_law_take" ["_law_state_here", "_law_many"] (spTake K))  :
    FnOk P w K mg base CX0 2 f fd ["_law_state_here", "_law_gaps"] spRow := by
  have nd := sc_L_row.nd
  refine F.ok (k := 1) sc_L_row (fun vs H Q E h => ?_) (fun cdv A outer s H vs Q E hr h => ?_)
  · obtain ⟨a, g, x, b, rfl, _⟩ := h
    rfl
  obtain ⟨a, g, x, b, rfl, hS, hg, q⟩ := h
  refine ⟨_, (pss_cons (ps_set (i := 2) nd rfl (Or.inl rfl) (pe_lst pa_nil))
  (pss_cons (ps_set (i := 3) nd rfl (Or.inl rfl) (pe_ix ix_list (pe_lst (pa_cons pe_int (pa_cons (pe_un un_neg pe_int) (pa_cons (pe_op op_sub (pe_def h_L_take hr (pa_cons (pv 0) (pa_cons pe_int pa_nil))) pe_int) pa_nil)))) (pe_def h_L_take hr (pa_cons (pv 0) (pa_cons pe_int pa_nil))) (fun _ _ => rfl)))
  (pss_cons (ps_for PassesOwn.never rfl (pi_range1 rfl nb.range (pa_cons (pe_def h_L_take hr (pa_cons (pv 0) (pa_cons pe_int pa_nil))) pa_nil)) (pg_name (i := 4) nd rfl (Or.inl rfl))
   (pss_cons (ps_set (i := 5) nd rfl (Or.inl rfl) (pe_op op_add pe_int (pe_def h_L_take hr (pa_cons (pv 0) (pa_cons (pe_ix ix_list (pe_lst (pa_cons pe_int (pa_cons pe_int (pa_cons pe_int pa_nil)))) (pe_def h_L_take hr (pa_cons (pv 0) (pa_cons pe_int pa_nil))) (fun _ _ => rfl)) pa_nil)))))
  (pss_cons (ps_for PassesOwn.never rfl (pi_range1 rfl nb.range (pa_cons (pv 5) pa_nil)) (pg_name (i := 6) nd rfl (Or.inl rfl))
   (pss_cons (ps_if (pt_cmpR op_lt (pe_callB call_len_seq rfl nb.len PySem.boot_len (pa_cons (pv 2) pa_nil)) pe_int (nomark _))
   (pss_one (ps_expr (pe_bm PySem.F.plainAttrs_list PySem.F.slot_list_append PySem.F.type_list_append mt_append (pv 2) (pa_cons (pv 3) pa_nil))))
   pss_nil)
  (pss_one (ps_set (i := 3) nd rfl (Or.inl rfl) (pe_op op_add (pv 3) pe_int)))))
  (pss_one (ps_set (i := 3) nd rfl (Or.inl rfl) (pe_op op_add (pe_op op_add (pv 3) pe_int) (pe_def h_L_take hr (pa_cons (pv 0) (pa_cons (pe_ix ix_list (pv 1) (pe_def h_L_take hr (pa_cons (pv 0) (pa_cons (pe_callB call_len_seq rfl nb.len PySem.boot_len (pa_cons (pv 1) pa_nil)) pa_nil))) (fun _ _ => rfl)) pa_nil)))))))))
  (pss_one (ps_ret (pe_callTy call_tuple_of rfl nb.tuple boot_tuple (pa_cons (pv 2) pa_nil))))))), ?_⟩
  refine ⟨(by show 0 ≤ sizeLine; decide), fun f hf => ?_⟩
  have fa : f ≠ a := (ne_of_none hS.1 hf).symm
  have fg : g ≠ f := ne_of_none hg hf
  have ga : g ≠ a := ne_of hg hS.1 (ints_ne (ns := [2, 5, 12]))
  have r0 : RI H a g f b (upd H f (.lst [])) (-20) 20 := ⟨⟨x, hS.same (same_new hf _)⟩, (Keep.refl a H).same (same_new hf _), same_new hf _ _ _ hg, ⟨[], upd_same, by simp, .nil, fun p hp => absurd hp (by simp)⟩, by omega, by omega, fa, ga, hf, fg⟩
  obtain ⟨x1, st1⟩ := r0.st
  refine ⟨_, rfl, _, rfl, a, x1, b, 41, rfl, st1, by decide, by decide, fun v1 x2 v10 v11 d2 => ?_⟩
  have r1 := r0.take d2
  refine ⟨_, _, rfl, rfl, (by show 3 ≤ sizeLine; decide), fun p hp => ?_⟩
  have r2 := r1.new (o := .lst [.int 0, .int (-7), .int (v1 - 20)]) hp
  obtain ⟨x3, st3⟩ := r2.st
  refine ⟨_, rfl, a, x3, b, 3, rfl, st3, by decide, by decide, fun v2 x4 v20 v21 d4 => ?_⟩
  have r3 := r2.take d4
  have pa : p ≠ a := fun e => by
    obtain ⟨x5, st5⟩ := r1.st
    rw [e, st5.1] at hp; cases hp
  obtain ⟨u, hu, um, _⟩ := at_mem (xs := [.int 0, .int (-7), .int (v1 - 20)]) v20 (by simpa using v21)
  have hpl : ∃ pl : Int, u = .int pl ∧ -20 ≤ pl ∧ pl ≤ 20 := by
    simp only [List.mem_cons, List.not_mem_nil, or_false] at um
    rcases um with rfl | rfl | rfl
    · exact ⟨_, rfl, by omega, by omega⟩
    · exact ⟨_, rfl, by omega, by omega⟩
    · exact ⟨_, rfl, by omega, by omega⟩
  obtain ⟨pl, rfl, pl0, pl1⟩ := hpl
  refine ⟨p, _, _, _, rfl, rfl, SqL.of (by rw [upd_ne pa]; exact upd_same), hu, ?_⟩
  have r4 := r3.go (p' := pl) (bd' := 20) pl0 pl1
  obtain ⟨x6, st6⟩ := r4.st
  refine ⟨_, rfl, a, x6, b, 6, rfl, st6, by decide, by decide, fun v3 x7 v30 v31 d7 => ?_⟩
  have r5 := r4.take d7
  refine ⟨v3, rfl, by omega, by omega, ?_⟩
  refine for_range (fun i σ H' => ∃ (pl : Int) (o1 o2 o3 : Option V), σ = [some (.ref a), some (.ref g), some (.ref f), some (.int pl), o1, o2, o3] ∧ RI H a g f b H' pl (20 + 17 * (i : Int))) ⟨pl, none, none, none, rfl, by simpa using r5⟩ (fun i σ H' hi hp' => ?_) (fun σ H' hp' => ?_)
  · obtain ⟨pl, o1, o2, o3, rfl, r⟩ := hp'
    obtain ⟨y1, s1⟩ := r.st
    refine ⟨_, rfl, (by show 3 ≤ sizeLine; decide), fun p2 hp2 => ?_⟩
    have ra := r.new (o := .lst [.int 2, .int 3, .int 5]) hp2
    obtain ⟨y2, s2⟩ := ra.st
    refine ⟨_, rfl, a, y2, b, 3, rfl, s2, by decide, by decide, fun w1 y3 w10 w11 e3 => ?_⟩
    have rb := ra.take e3
    have pa2 : p2 ≠ a := fun e => by rw [e, s1.1] at hp2; cases hp2
    obtain ⟨u2, hu2, um2, _⟩ := at_mem (xs := [.int 2, .int 3, .int 5]) w10 (by simpa using w11)
    have hsz : ∃ z : Int, u2 = .int z ∧ 2 ≤ z ∧ z ≤ 5 := by
      simp only [List.mem_cons, List.not_mem_nil, or_false] at um2
      rcases um2 with rfl | rfl | rfl <;> exact ⟨_, rfl, by decide, by decide⟩
    obtain ⟨z, rfl, z0, z1⟩ := hsz
    refine ⟨p2, _, _, _, rfl, rfl, SqL.of (by rw [upd_ne pa2]; exact upd_same), hu2, ?_⟩
    obtain ⟨y4, s4⟩ := rb.st
    refine ⟨a, y4, b, z, rfl, s4, by omega, by omega, fun w2 y5 w20 w21 e5 => ?_⟩
    have rc := rb.take e5
    refine ⟨_, _, rfl, rfl, ?_⟩
    refine ⟨_, rfl, _, rfl, by omega, by omega, ?_⟩
    have en : ((1 + w2).toNat : Int) = 1 + w2 := by omega
    refine for_range (fun j σ H' => ∃ (pl' : Int) (o3 : Option V), σ = [some (.ref a), some (.ref g), some (.ref f), some (.int pl'), some (.int (0 + (i : Int))), some (.int (1 + w2)), o3] ∧ RI H a g f b H' pl' (20 + 17 * (i : Int) + (j : Int))) ⟨pl, o3, rfl, by simpa using rc⟩ (fun j σ H' hj hp' => ?_) (fun σ H' hp' => ?_)
    · obtain ⟨pl', o3, rfl, r⟩ := hp'
      obtain ⟨row, hrow, z1', z2', z3'⟩ := r.ff
      refine ⟨_, rfl, f, _, rfl, .inl (SqL.of hrow), _, _, rfl, rfl, _, rfl, ?_⟩
      refine ite2 (fun c => ?_) (fun c => ?_)
      · have c' : (((row.map V.int).length : Nat) : Int) < 12 := of_decide_eq_true c
        rw [List.length_map] at c'
        refine ⟨_, rfl, .inl ⟨rfl, _, SqL.of hrow⟩, _, rfl, f, _, _, rfl, rfl, hrow, by rw [List.length_map, sizeLine_eq]; omega, ?_⟩
        refine ⟨_, rfl, _, _, rfl, rfl, pl' + 1, _, rfl, ?_⟩
        have := r.app hrow (by omega) z2' z3'
        rw [Int.natCast_add, ← Int.add_assoc]
        exact this
      · refine ⟨_, rfl, _, _, rfl, rfl, pl' + 1, _, rfl, ?_⟩
        refine r.go (by omega) ?_
        have := r.hi
        rw [Int.natCast_add]; omega
    · obtain ⟨pl', o3, rfl, r⟩ := hp'
      refine ⟨_, rfl, _, _, rfl, rfl, _, rfl, _, rfl, _, rfl, _, rfl, g, _, rfl, .inl (SqL.of r.gg), ?_⟩
      obtain ⟨y6, s6⟩ := r.st
      refine ⟨a, y6, b, _, rfl, s6, by show (0 : Int) < 3; decide, by show (3 : Int) < 1073741824; decide, fun w3 y7 w30 w31 e7 => ?_⟩
      have rd := r.take e7
      obtain ⟨u3, hu3, um3, _⟩ := at_mem (xs := [.int 2, .int 5, .int 12]) w30 (by simpa using w31)
      have hgp : ∃ z : Int, u3 = .int z ∧ 2 ≤ z ∧ z ≤ 12 := by
        simp only [List.mem_cons, List.not_mem_nil, or_false] at um3
        rcases um3 with rfl | rfl | rfl <;> exact ⟨_, rfl, by decide, by decide⟩
      obtain ⟨gp, rfl, g0, g1⟩ := hgp
      refine ⟨g, _, _, _, rfl, rfl, SqL.of rd.gg, hu3, ?_⟩
      obtain ⟨y8, s8⟩ := rd.st
      refine ⟨a, y8, b, gp, rfl, s8, by omega, by omega, fun w4 y9 w40 w41 e9 => ?_⟩
      have re := rd.take e9
      refine ⟨_, _, rfl, rfl, _, _, _, _, rfl, re.go (by omega) ?_⟩
      have := r.hi
      rw [en] at this
      rw [Int.natCast_add]; omega
  · obtain ⟨pl, o1, o2, o3, rfl, r⟩ := hp'
    obtain ⟨row, hrow, z1', z2', z3'⟩ := r.ff
    obtain ⟨y1, s1⟩ := r.st
    refine ⟨_, rfl, f, _, rfl, .inl ⟨SqL.of hrow, fun l hl => ?_⟩⟩
    refine q l row _ y1 (r.kp.same (same_new hl _)) (s1.same (same_new hl _)) upd_same ⟨z1', z2', fun p hp => ⟨(z3' p hp).1, ?_⟩⟩
    have h1 := (z3' p hp).2
    have h2 := r.hi
    have h3 : ((v3.toNat : Nat) : Int) ≤ 5 := by omega
    omega
end
end K33
end
section
namespace K33
open PySem PySem.Spec PyProof.Rows L2
set_option maxHeartbeats 4000000
set_option Elab.async false
set_option linter.unusedVariables false
structure Far (row : List Int) : Prop where
  len : row.length ≤ 12
  up : row.Pairwise (· < ·)
  bd : ∀ p ∈ row, -1000000000 ≤ p ∧ p ≤ 1000000000
theorem RowOk.far {row : List Int} (h : RowOk row) : Far row := ⟨h.len, h.up, fun p hp => by have := h.bd p hp; omega⟩
theorem map_ints (ns : List Int) (h : Int → Int) : (List.range ns.length).map (fun i => V.int (h (ns.getD i 0))) = (ns.map h).map V.int := by
  apply List.ext_getElem?
  intro i
  rw [List.getElem?_map, List.getElem?_map, List.getElem?_map]
  by_cases c : i < ns.length
  · rw [List.getElem?_range c, List.getElem?_eq_getElem c]
    show some (V.int (h (ns.getD i 0))) = some (V.int (h ns[i]))
    rw [List.getD_eq_getElem?_getD, List.getElem?_eq_getElem c]
    rfl
  · rw [List.getElem?_eq_none (by simpa using c), List.getElem?_eq_none (by omega)]
    rfl
theorem far_one {row : List Int} {far : Int} (h : RowOk row) (hf : far = 999999700 ∨ far = -999999700) : Far (row.map fun p => p + far) := by
  refine ⟨by rw [List.length_map]; exact h.len, ?_, fun p hp => ?_⟩
  · rw [List.pairwise_map]
    exact h.up.imp fun {a b} z => by omega
  · obtain ⟨y, hy, rfl⟩ := List.mem_map.mp hp
    have := h.bd y hy
    omega
theorem far_two {row : List Int} {far : Int} (k : Nat) (h : RowOk row) (hf : far = 100000000 ∨ far = 500000000) : Far (((row.take k).map fun p => p - far) ++ (row.drop k).map fun p => p + far) := by
  have up : (row.take k ++ row.drop k).Pairwise (· < ·) := by rw [List.take_append_drop]; exact h.up
  obtain ⟨u1, u2, u3⟩ := List.pairwise_append.mp up
  refine ⟨?_, ?_, fun p hp => ?_⟩
  · rw [List.length_append, List.length_map, List.length_map, List.length_take, List.length_drop]
    have := h.len
    omega
  · refine List.pairwise_append.mpr ⟨?_, ?_, fun x hx y hy => ?_⟩
    · rw [List.pairwise_map]; exact u1.imp fun {a b} z => by omega
    · rw [List.pairwise_map]; exact u2.imp fun {a b} z => by omega
    · obtain ⟨x', hx', rfl⟩ := List.mem_map.mp hx
      obtain ⟨y', hy', rfl⟩ := List.mem_map.mp hy
      have := u3 x' hx' y' hy'
      omega
  · rcases List.mem_append.mp hp with z | z
    · obtain ⟨y, hy, rfl⟩ := List.mem_map.mp z
      have := h.bd y (List.mem_of_mem_take hy)
      omega
    · obtain ⟨y, hy, rfl⟩ := List.mem_map.mp z
      have := h.bd y (List.mem_of_mem_drop hy)
      omega
def spFar : Sp := fun vs H Q _ => ∃ (a t : Addr) (x : Int) (b : Bool) (row : List Int), vs = [.ref a, .ref t] ∧ StAt H a x b ∧ H t = some (.tup (row.map V.int)) ∧ RowOk row ∧
  ∀ (r : Addr) (row2 : List Int) (H' : Hp) (x' : Int), Keep a H H' → StAt H' a x' b → H' r = some (.tup (row2.map V.int)) → Far row2 → Q (.ref r) H'
section
variable {P : Program} {w : World} {K : PySem.W.Frag} {mg : Str → Option Value} {base : Heap}
set_option maxRecDepth 100000 in
theorem ok_L_far {f : Addr} {fd : FuncData} (F : Fun K "_law_far" "_law_far" s_L_far f fd) (nb : Nb mg) (h_L_take : Has P w K mg base 1 "_law_take" ["_law_state_here", "_law_many"] (spTake K))  :
    FnOk P w K mg base CX0 2 f fd ["_law_state_here", "_law_row_here"] spFar := by
  have nd := sc_L_far.nd
  refine F.ok (k := 1) sc_L_far (fun vs H Q E h => ?_) (fun cdv A outer s H vs Q E hr h => ?_)
  · obtain ⟨a, t, x, b, row, rfl, _⟩ := h
    rfl
  obtain ⟨a, t, x, b, row, rfl, hS, ht, ro, q⟩ := h
  refine ⟨_, (pss_cons (ps_set (i := 2) nd rfl (Or.inl rfl) (pe_def h_L_take hr (pa_cons (pv 0) (pa_cons pe_int pa_nil))))
  (pss_cons (ps_set (i := 3) nd rfl (Or.inr rfl) (pe_ix ix_list (pe_lst (pa_cons (pe_op op_sub (pe_op op_pow pe_int pe_int) pe_int) (pa_cons (pe_op op_sub pe_int (pe_op op_pow pe_int pe_int)) (pa_cons (pe_op op_pow pe_int pe_int) (pa_cons (pe_op op_mul pe_int (pe_op op_pow pe_int pe_int)) pa_nil))))) (pv 2) (fun _ _ => rfl)))
  (pss_cons (ps_if (pt_cmpR op_lt (pv 2) pe_int (nomark _))
   (pss_one (ps_ret (pe_callTy call_tuple_of rfl nb.tuple boot_tuple (pa_cons (pe_comp1 (sc := defScope s_L_far) (N0 := ["_law_state_here", "_law_row_here", "_law_kind", "_law_far_here", "_law_at"]) (N := ["_law_far_here"]) (js := [3]) rfl rfl rfl (by exact ⟨rfl, by decide +kernel, by decide +kernel, by decide +kernel, rfl, rfl, by decide, by decide +kernel, by decide +kernel⟩) rfl
     (pi_tup (pv 1))
     (fun _ _ _ _ _ => by exact pts_nil)
     (fun _ _ _ _ _ => by exact (pe_op op_add (pv 0) (pv 1)))) pa_nil))))
   pss_nil)
  (pss_cons (ps_set (i := 4) nd rfl (Or.inl rfl) (pe_def h_L_take hr (pa_cons (pv 0) (pa_cons (pe_op op_add (pe_callB call_len_seq rfl nb.len PySem.boot_len (pa_cons (pv 1) pa_nil)) pe_int) pa_nil))))
  (pss_one (ps_ret (pe_callTy call_tuple_of rfl nb.tuple boot_tuple (pa_cons (pe_op op_cat (pe_comp1 (sc := defScope s_L_far) (N0 := ["_law_state_here", "_law_row_here", "_law_kind", "_law_far_here", "_law_at"]) (N := ["_law_far_here"]) (js := [3]) rfl rfl rfl (by exact ⟨rfl, by decide +kernel, by decide +kernel, by decide +kernel, rfl, rfl, by decide, by decide +kernel, by decide +kernel⟩) rfl
     (pi_tup (pe_slice sl_tupA (pv 1) po_none (po_some (pv 4))))
     (fun _ _ _ _ _ => by exact pts_nil)
     (fun _ _ _ _ _ => by exact (pe_op op_sub (pv 0) (pv 1)))) (pe_comp1 (sc := defScope s_L_far) (N0 := ["_law_state_here", "_law_row_here", "_law_kind", "_law_far_here", "_law_at"]) (N := ["_law_far_here"]) (js := [3]) rfl rfl rfl (by exact ⟨rfl, by decide +kernel, by decide +kernel, by decide +kernel, rfl, rfl, by decide, by decide +kernel, by decide +kernel⟩) rfl
     (pi_tup (pe_slice sl_tupA (pv 1) (po_some (pv 4)) po_none))
     (fun _ _ _ _ _ => by exact pts_nil)
     (fun _ _ _ _ _ => by exact (pe_op op_add (pv 0) (pv 1))))) pa_nil)))))))), ?_⟩
  refine ⟨_, rfl, a, x, b, 4, rfl, hS, by decide, by decide, fun kd x1 k0 k1 d1 => ?_⟩
  have ta : t ≠ a := ne_of ht hS.1 (by intro z; cases z)
  have kp1 := keep_upd a H (.lst [.int x1, .bl b])
  have st1 : StAt (upd H a (.lst [.int x1, .bl b])) a x1 b := StAt.upd d1
  have ht1 := kp1 _ _ ta ht
  generalize upd H a (.lst [.int x1, .bl b]) = H1 at kp1 st1 ht1 ⊢
  refine ⟨_, _, rfl, rfl, ⟨by decide, by decide, by decide⟩, _, _, rfl, rfl, _, _, rfl, rfl, ⟨by decide, by decide, by decide⟩, _, _, rfl, rfl, _, _, rfl, rfl, ⟨by decide, by decide, by decide⟩, _, _, rfl, rfl, ⟨by decide, by decide, by decide⟩, _, _, rfl, rfl, .inl ⟨by decide, by decide⟩, (by show 4 ≤ sizeLine; decide), fun p hp => ?_⟩
  obtain ⟨u, hu, um, ui⟩ := at_mem (xs := [V.int 999999700, V.int (-999999700), V.int 100000000, V.int 500000000]) k0 (by simpa using k1)
  have hfar : ∃ far : Int, u = .int far ∧ (kd < 2 → far = 999999700 ∨ far = -999999700) ∧ (¬ kd < 2 → far = 100000000 ∨ far = 500000000) := by
    have hk : kd = 0 ∨ kd = 1 ∨ kd = 2 ∨ kd = 3 := by omega
    rcases hk with rfl | rfl | rfl | rfl
    · cases ui; exact ⟨_, rfl, fun _ => .inl rfl, fun z => absurd (by decide) z⟩
    · cases ui; exact ⟨_, rfl, fun _ => .inr rfl, fun z => absurd (by decide) z⟩
    · cases ui; exact ⟨_, rfl, fun z => absurd z (by decide), fun _ => .inl rfl⟩
    · cases ui; exact ⟨_, rfl, fun z => absurd z (by decide), fun _ => .inr rfl⟩
  obtain ⟨far, rfl, f1, f2⟩ := hfar
  refine ⟨_, rfl, p, _, _, _, rfl, rfl, SqL.of upd_same, hu, ?_⟩
  have s2 := same_new hp (.lst [.int 999999700, .int (-999999700), .int 100000000, .int 500000000])
  have kp2 := kp1.same s2
  have st2 := st1.same s2
  have ht2 := s2 _ _ ht1
  have s2' : Same H1 (upd H1 p (.lst [.int ((10 : Int) ^ (9 : Int).toNat - 300), .int (300 - (10 : Int) ^ (9 : Int).toNat), .int ((10 : Int) ^ (8 : Int).toNat), .int (5 * (10 : Int) ^ (8 : Int).toNat)])) := same_new hp _
  refine ⟨_, rfl, _, _, rfl, rfl, _, rfl, ?_⟩
  refine ite2 (fun c => ?_) (fun c => ?_)
  · have c' : kd < 2 := of_decide_eq_true c
    refine ⟨_, rfl, t, rfl, ⟨_, SqT.of (s2' _ _ ht1)⟩, fun D hD => ?_⟩
    refine comp_go row.length (by rw [sizeLine_eq]; have := ro.len; omega) (fun i => .int (row.getD i 0 + far)) (fun σ => ∃ o1, σ = [o1, some (.int far)]) _ hD (by exact ⟨_, rfl⟩) (by have := items_tup (K := K) (s2' _ _ ht1); rw [List.length_map] at this; exact this) (fun i z σ' H2 hi s3 im hσ R hR => ?_) (fun H' s' hD' => ?_)
    · obtain ⟨o1, rfl⟩ := hσ
      obtain ⟨v, rfl, ev⟩ := int_at im
      exact ⟨_, rfl, _, rfl, _, _, rfl, rfl, hR _ _ _ ⟨_, rfl⟩ (Same.refl _) (by rw [ev])⟩
    · rw [map_ints row (fun z => z + far)] at hD'
      refine ⟨D, _, rfl, .inl ⟨SqL.of hD', fun l hl => ?_⟩⟩
      have s5 := same_new hl (.tup ((row.map fun z => z + far).map V.int))
      exact q l (row.map fun z => z + far) _ x1 (kp1.same (s2'.trans (s'.trans s5))) (st1.same (s2'.trans (s'.trans s5))) upd_same (far_one ro (f1 c'))
  · have c' : ¬ kd < 2 := of_decide_eq_false (Bool.eq_false_iff.mpr c)
    have kp3 := kp1.same s2'
    have st3 := st1.same s2'
    have ht3 := s2' _ _ ht1
    have rl : ((row.map V.int).length : Int) ≤ 12 := by rw [List.length_map]; have := ro.len; omega
    refine ⟨_, rfl, _, rfl, t, _, rfl, .inr (SqT.of ht3), _, _, rfl, rfl, a, x1, b, _, rfl, st3, by omega, by omega, fun at' x4 a0 a1 d4 => ?_⟩
    have kp4 := kp3.trans (keep_upd a _ (.lst [.int x4, .bl b]))
    have st4 : StAt (upd (upd H1 p (.lst [.int ((10 : Int) ^ (9 : Int).toNat - 300), .int (300 - (10 : Int) ^ (9 : Int).toNat), .int ((10 : Int) ^ (8 : Int).toNat), .int (5 * (10 : Int) ^ (8 : Int).toNat)])) a (.lst [.int x4, .bl b])) a x4 b := StAt.upd d4
    have ht4 := keep_upd a _ (.lst [.int x4, .bl b]) _ _ ta ht3
    have ea : at' = ((at'.toNat : Nat) : Int) := by omega
    refine ⟨_, rfl, _, rfl, _, rfl, t, _, rfl, ht4, fun p1 H5 s5 hp1 => ?_⟩
    rw [ea, cut_to, ← List.map_take] at hp1
    refine ⟨p1, rfl, ⟨_, SqT.of hp1⟩, fun D1 hD1 => ?_⟩
    have l1 : (row.take at'.toNat).length ≤ 12 := by rw [List.length_take]; have := ro.len; omega
    have l2 : (row.drop at'.toNat).length ≤ 12 := by rw [List.length_drop]; have := ro.len; omega
    refine comp_go (row.take at'.toNat).length (by rw [sizeLine_eq]; omega) (fun i => .int ((row.take at'.toNat).getD i 0 - far)) (fun σ => ∃ o1, σ = [o1, some (.int far)]) _ hD1 (by exact ⟨_, rfl⟩) (by have := items_tup (K := K) hp1; rw [List.length_map] at this; exact this) (fun i z σ' H2 hi s3 im hσ R hR => ?_) (fun H6 s6 hD6 => ?_)
    · obtain ⟨o1, rfl⟩ := hσ
      obtain ⟨v, rfl, ev⟩ := int_at im
      exact ⟨_, rfl, _, rfl, _, _, rfl, rfl, hR _ _ _ ⟨_, rfl⟩ (Same.refl _) (by rw [ev])⟩
    rw [map_ints (row.take at'.toNat) (fun z => z - far)] at hD6
    refine ⟨_, rfl, _, rfl, _, rfl, t, _, rfl, s6 _ _ (s5 _ _ ht4), fun p2 H7 s7 hp2 => ?_⟩
    rw [ea, cut_from, ← List.map_drop] at hp2
    refine ⟨p2, rfl, ⟨_, SqT.of hp2⟩, fun D2 hD2 => ?_⟩
    refine comp_go (row.drop at'.toNat).length (by rw [sizeLine_eq]; omega) (fun i => .int ((row.drop at'.toNat).getD i 0 + far)) (fun σ => ∃ o1, σ = [o1, some (.int far)]) _ hD2 (by exact ⟨_, rfl⟩) (by have := items_tup (K := K) hp2; rw [List.length_map] at this; exact this) (fun i z σ' H2 hi s3 im hσ R hR => ?_) (fun H8 s8 hD8 => ?_)
    · obtain ⟨o1, rfl⟩ := hσ
      obtain ⟨v, rfl, ev⟩ := int_at im
      exact ⟨_, rfl, _, rfl, _, _, rfl, rfl, hR _ _ _ ⟨_, rfl⟩ (Same.refl _) (by rw [ev])⟩
    rw [map_ints (row.drop at'.toNat) (fun z => z + far)] at hD8
    have l3 : (((row.take at'.toNat).map fun z => z - far).map V.int).length + (((row.drop at'.toNat).map fun z => z + far).map V.int).length ≤ sizeLine := by
      rw [List.length_map, List.length_map, List.length_map, List.length_map, sizeLine_eq]; omega
    refine ⟨D1, D2, _, _, rfl, rfl, s8 _ _ (s7 _ _ hD6), hD8, l3, fun r hr' => ?_⟩
    refine ⟨r, _, rfl, .inl ⟨SqL.of upd_same, fun l hl => ?_⟩⟩
    have s9 := s5.trans (s6.trans (s7.trans (s8.trans ((same_new hr' _).trans (same_new hl (.tup (((row.take at'.toNat).map fun z => z - far).map V.int ++ ((row.drop at'.toNat).map fun z => z + far).map V.int)))))))
    exact q l (((row.take at'.toNat).map fun z => z - far) ++ (row.drop at'.toNat).map fun z => z + far) _ x4 (kp4.same s9) (st4.same s9) (by rw [upd_same, List.map_append]) (far_two at'.toNat ro (f2 c'))
end
end K33
end
section
namespace K33
open PySem PySem.Spec PyProof.Rows L2
set_option maxHeartbeats 4000000
set_option Elab.async false
set_option linter.unusedVariables false
def spSame : Nat → Sp
  | 0 => fun _ _ _ _ => False
  | n + 1 => fun vs H Q _ => ∃ x y : V, vs = [x, y] ∧ Sm H n x y ∧ ∀ H', Same H H' → Q (.bl true) H'
theorem same_flat {H : Hp} {x y : V} (h : x = y ∧ ((∃ i, x = .int i) ∨ (∃ b, x = .bl b) ∨ (∃ z, x = .str z) ∨ x = .non)) : ∃ T, Kn H x T ∧ Kn H y T ∧ seqT T = false ∧ scal x y = true ∧ x = y := by
  obtain ⟨rfl, h⟩ := h
  rcases h with ⟨i, rfl⟩ | ⟨b, rfl⟩ | ⟨z, rfl⟩ | rfl
  · exact ⟨_, .int i, .int i, rfl, rfl, rfl⟩
  · exact ⟨_, .bl b, .bl b, rfl, rfl, rfl⟩
  · exact ⟨_, .str z, .str z, rfl, rfl, rfl⟩
  · exact ⟨_, .non, .non, rfl, rfl, rfl⟩
theorem Sm.cases {H : Hp} {n : Nat} {x y : V} (h : Sm H n x y) : (∃ T, Kn H x T ∧ Kn H y T ∧ seqT T = false ∧ scal x y = true ∧ x = y) ∨
    ∃ (m : Nat) (a b : Addr) (xs ys : List V), n = m + 1 ∧ x = .ref a ∧ y = .ref b ∧ ((H a = some (.tup xs) ∧ H b = some (.tup ys)) ∨ (H a = some (.lst xs) ∧ H b = some (.lst ys))) ∧ xs.length = ys.length ∧ xs.length ≤ 1000 ∧
      ∀ (i : Nat) (u v : V), xs[i]? = some u → ys[i]? = some v → Sm H m u v := by
  cases n with
  | zero => exact .inl (same_flat h)
  | succ n =>
    rcases h with h | ⟨a, b, xs, ys, h⟩
    · exact .inl (same_flat h)
    · exact .inr ⟨n, a, b, xs, ys, rfl, h⟩
theorem is_same {α : Type} [DecidableEq α] {x y : α} (e : x = y) : V.bl (decide (x = y)) = .bl true := by rw [decide_eq_true e]
theorem no_diff {α : Type} [DecidableEq α] {x y : α} (e : x = y) : V.bl (!decide (x = y)) = .bl false := by rw [decide_eq_true e]; rfl
theorem none_left {P : Program} {w : World} {K : PySem.W.Frag} {mg : Str → Option Value} {base : Heap} {f : Addr} {fd : FuncData} : FnOk P w K mg base CX0 0 f fd ["_law_found", "_law_due_here"] (spSame 0) :=
  ⟨fun vs H Q E h => h.elim, fun A outer s H args us vs Q E _ _ _ _ h => h.elim⟩
section
variable {P : Program} {w : World} {K : PySem.W.Frag} {mg : Str → Option Value} {base : Heap}
set_option maxRecDepth 100000 in
theorem ok_L_same {f : Addr} {fd : FuncData} (F : Fun K "_law_same" "_law_same" s_L_same f fd) {n : Nat} (nb : Nb2 mg) (h_L_same : Has P w K mg base n "_law_same" ["_law_found", "_law_due_here"] (spSame n))  :
    FnOk P w K mg base CX0 (n + 1) f fd ["_law_found", "_law_due_here"] (spSame (n + 1)) := by
  have nd := sc_L_same.nd
  refine F.ok (k := n) sc_L_same (fun vs H Q E h => ?_) (fun cdv A outer s H vs Q E hr h => ?_)
  · obtain ⟨x, y, rfl, _⟩ := h
    rfl
  obtain ⟨x, y, rfl, sm, q⟩ := h
  refine ⟨_, (pss_cons (ps_if (pt_truth (pe_callB call_isiT rfl nb.isi boot_isinstance (pa_cons (pv 1) (pa_cons (pe_tup (pa_cons (pe_ty nb.list boot_list) (pa_cons (pe_ty nb.tuple boot_tuple) pa_nil))) pa_nil))) (fun _ => rfl))
(pss_cons (ps_if (PW.pt (pw_or (pt_cmpR op_ne (pe_callB call_isi rfl nb.isi boot_isinstance (pa_cons (pv 0) (pa_cons (pe_ty nb.list boot_list) pa_nil))) (pe_callB call_isi rfl nb.isi boot_isinstance (pa_cons (pv 1) (pa_cons (pe_ty nb.list boot_list) pa_nil))) (nomark _)) (pw_or1 (pt_cmpR op_ne (pe_callB call_isi rfl nb.isi boot_isinstance (pa_cons (pv 0) (pa_cons (pe_ty nb.tuple boot_tuple) pa_nil))) (pe_callB call_isi rfl nb.isi boot_isinstance (pa_cons (pv 1) (pa_cons (pe_ty nb.tuple boot_tuple) pa_nil))) (nomark _)))))
(pss_one (ps_ret pe_bl))
pss_nil)
(pss_one (ps_ret (pe_and (pe_cmpR op_eq (pe_callB call_len_seq rfl nb.len PySem.boot_len (pa_cons (pv 0) pa_nil)) (pe_callB call_len_seq rfl nb.len PySem.boot_len (pa_cons (pv 1) pa_nil)) (nomark _)) (pe_one (pe_callB (call_allB rfl) rfl nb.all boot_all (pa_cons (pe_comp2 (sc := defScope s_L_same) (N0 := ["_law_found", "_law_due_here"]) (N := []) (js := []) rfl rfl rfl (by exact ⟨rfl, by decide +kernel, by decide +kernel, by decide +kernel, rfl, rfl, by decide, by decide +kernel, by decide +kernel⟩) rfl rfl
(pi_zipE rfl nb.zip (pa_cons (pv 0) (pa_cons (pv 1) pa_nil)))
(fun _ _ _ _ _ => by exact pts_nil)
(fun _ _ _ _ _ => by exact (pe_def (hk := Nat.le_refl _) h_L_same hr (pa_cons (pv 0) (pa_cons (pv 1) pa_nil))))) pa_nil)))))))
pss_nil)
(pss_one (ps_ret (pe_and (pe_cmpR op_eq (pe_callB call_isi rfl nb.isi boot_isinstance (pa_cons (pv 0) (pa_cons (pe_ty nb.bool boot_bool) pa_nil))) (pe_callB call_isi rfl nb.isi boot_isinstance (pa_cons (pv 1) (pa_cons (pe_ty nb.bool boot_bool) pa_nil))) (nomark _)) (pe_one (pe_cmpR op_eq (pv 0) (pv 1) (nomark _))))))), ?_⟩
  refine ⟨_, rfl, (by show 2 ≤ sizeLine; decide), fun p hp => ?_⟩
  have s1 := same_new hp (.tup [.ty "list", .ty "tuple"])
  have sm1 := sm.same s1
  rcases Sm.cases sm1 with ⟨T, kx, ky, sq, sc, exy⟩ | ⟨m, a, b, xs, ys, rfl, rfl, rfl, ab, hl, hz, hs⟩
  · refine ⟨_, _, _, rfl, ky, .inl upd_same, _, rfl, ?_⟩
    rw [sq]
    refine iteF ?_
    refine ⟨_, rfl, _, _, _, rfl, kx, .inr (.inl rfl), _, rfl, _, _, _, rfl, ky, .inr (.inl rfl), rfl, true, is_same rfl, iteT ?_⟩
    refine ⟨_, rfl, _, rfl, sc, ?_⟩
    have e : V.bl (decide (x = y)) = .bl true := is_same exy
    rw [e]
    exact q _ s1
  · have hp1 : (upd H p (.tup [.ty "list", .ty "tuple"])) p = some (.tup [.ty "list", .ty "tuple"]) := upd_same
    generalize upd H p (.tup [.ty "list", .ty "tuple"]) = H1 at s1 sm1 ab hs hp1 ⊢
    have hh : ∃ T, Kn H1 (.ref a) T ∧ Kn H1 (.ref b) T ∧ seqT T = true ∧ (SqL K H1 a xs ∨ SqT K H1 a xs) ∧ (SqL K H1 b ys ∨ SqT K H1 b ys) ∧ ∃ t, SqK t K H1 a xs ∧ SqK t K H1 b ys ∧
        ∀ i H2, Same H1 H2 → (i < min xs.length ys.length → (Itz t K a b).go i H2 ∧ ∀ v H3, (Itz t K a b).yld i H2 v H3 → Same H2 H3 ∧ ∃ p x y, v = .ref p ∧ H3 p = some (.tup [x, y]) ∧ xs[i]? = some x ∧ ys[i]? = some y) ∧ (min xs.length ys.length ≤ i → (Itz t K a b).stop i H2) := by
      rcases ab with ⟨h1, h2⟩ | ⟨h1, h2⟩
      · exact ⟨_, .tup h1, .tup h2, rfl, .inr (SqT.of h1), .inr (SqT.of h2), true, SqT.of h1, SqT.of h2, items_zip h1 h2⟩
      · exact ⟨_, .lst h1, .lst h2, rfl, .inl (SqL.of h1), .inl (SqL.of h2), false, SqL.of h1, SqL.of h2, items_zipL h1 h2⟩
    obtain ⟨T, kx, ky, sq, sx, sy, t, q1, q2, its⟩ := hh
    refine ⟨_, _, _, rfl, ky, .inl hp1, _, rfl, ?_⟩
    rw [sq]
    refine iteT ?_
    refine ⟨_, rfl, _, _, _, rfl, kx, .inr (.inr (.inr rfl)), _, rfl, _, _, _, rfl, ky, .inr (.inr (.inr rfl)), rfl, false, no_diff rfl, iteF ?_⟩
    refine ⟨_, rfl, _, _, _, rfl, kx, .inr (.inr (.inl rfl)), _, rfl, _, _, _, rfl, ky, .inr (.inr (.inl rfl)), rfl, false, no_diff rfl, iteF ?_⟩
    refine ⟨_, rfl, a, xs, rfl, sx, _, rfl, b, ys, rfl, sy, rfl, true, is_same (by rw [hl]), iteT ?_⟩
    refine ⟨_, rfl, _, rfl, t, a, b, xs, ys, rfl, q1, q2, fun D hD => ?_⟩
    refine comp_go (min xs.length ys.length) (by rw [sizeLine_eq]; omega) (fun _ => .bl true) (fun σ => ∃ o1 o2, σ = [o1, o2]) _ hD ⟨_, _, rfl⟩ its (fun i z σ' H2 hi s2 im' hσ R hR => ?_) (fun H' s' hD' => ?_)
    · obtain ⟨o1, o2, rfl⟩ := hσ
      obtain ⟨r, u, v, rfl, hr', hu, hv⟩ := im'
      refine ⟨r, _, rfl, SqT.of hr', rfl, _, _, rfl, _, _, rfl, rfl, ?_⟩
      exact ⟨_, rfl, _, rfl, u, v, rfl, (hs i u v hu hv).same s2, fun H3 s3 => hR _ _ _ ⟨_, _, rfl⟩ s3 rfl⟩
    · have e : (List.range (min xs.length ys.length)).map (fun _ => V.bl true) = (List.replicate (min xs.length ys.length) true).map V.bl := by
        rw [List.map_const', List.length_range, List.map_replicate]
      rw [e] at hD'
      refine ⟨D, _, rfl, SqL.of hD', ?_⟩
      have e2 : (List.replicate (min xs.length ys.length) true).all id = true := by rw [List.all_eq_true]; intro x hx; rw [List.eq_of_mem_replicate hx]; rfl
      rw [e2]
      exact q _ (s1.trans s')
end
end K33
end
section
/-! Lists of tuples of tuples held side by side, where they are the same. -/
namespace L2
open PySem PySem.Spec PyProof.Rows
set_option maxHeartbeats 4000000
set_option maxRecDepth 100000
set_option Elab.async false
set_option linter.unusedVariables false
/-- the same, at most n tuples deep -/
def De (H : Hp) : Nat → V → V → Prop
  | 0, x, y => ∃ i : Int, x = .int i ∧ y = .int i
  | n + 1, x, y => De H n x y ∨ ∃ (a b : Addr) (xs ys : List V), x = .ref a ∧ y = .ref b ∧ H a = some (.tup xs) ∧ H b = some (.tup ys) ∧ xs.length = ys.length ∧ ∀ (j : Nat) (u v : V), xs[j]? = some u → ys[j]? = some v → De H n u v
section
variable {X : Cx}
theorem de_eqAt {pins : List (Addr × Obj)} {s : Shared} {σ : St} {H : Hp} (I : Inv X pins σ H s) : ∀ (n : Nat) {A : Around} {x y : V} {u v : Value}, A.units + n < cLine → De H n x y → RelV x u → RelV y v → SeqAt.EqAt A s u v true
  | 0, A, x, y, u, v, _, d, r1, r2 => by
    obtain ⟨i, rfl, rfl⟩ := d
    obtain ⟨t, rfl⟩ := (show ∃ t, u = Value.int i t from r1)
    obtain ⟨t', rfl⟩ := (show ∃ t, v = Value.int i t from r2)
    have := SeqAt.EqAt.int_int (A := A) (s := s) i t i t'
    rw [beq_self_eq_true] at this
    exact this
  | n + 1, A, x, y, u, v, hu, d, r1, r2 => by
    rcases d with d | ⟨a, b, xs, ys, rfl, rfl, ha, hb, hl, hd⟩
    · exact de_eqAt I n (by omega) d r1 r2
    cases (show u = Value.ref a from r1)
    cases (show v = Value.ref b from r2)
    by_cases e : a = b
    · subst e
      exact SeqAt.EqAt.same _
    obtain ⟨_, i1, s1, q1⟩ := I.hok a _ ha
    obtain ⟨_, i2, s2, q2⟩ := I.hok b _ hb
    have z1 := s1.length
    have z2 := s2.length
    have e3 := SeqAt.RcAt.tuples (A := A) (s := s) (e := fun _ => true) (show s.heap.IsTuple a i1.toArray from q1) (show s.heap.IsTuple b i2.toArray from q2) (by omega) fun j h1 h2 => by
      simp only [List.size_toArray] at h1 h2
      have g1 := List.getElem?_eq_getElem (show j < xs.length by omega)
      have g2 := List.getElem?_eq_getElem (show j < ys.length by omega)
      obtain ⟨w1, f1, p1⟩ := s1.get g1
      obtain ⟨w2, f2, p2⟩ := s2.get g2
      have a1 : i1.toArray[j]'(by simpa using h1) = w1 := by
        have := (List.getElem?_eq_some_iff.mp f1).2
        simpa using this
      have a2 : i2.toArray[j]'(by simpa using h2) = w2 := by
        have := (List.getElem?_eq_some_iff.mp f2).2
        simpa using this
      rw [a1, a2]
      exact de_eqAt I n (A := A.in1) (by show A.units + 1 + n < cLine; omega) (hd j _ _ g1 g2) p1 p2
    refine SeqAt.EqAt.of_refs e ?_
    have e4 : ((List.range (min i1.toArray.size i2.toArray.size)).all (fun _ => true) && i1.toArray.size == i2.toArray.size) = true := by
      simp only [List.size_toArray]
      rw [← z1, ← z2, hl, beq_self_eq_true, Bool.and_true]
      exact List.all_eq_true.mpr fun _ _ => rfl
    rw [e4] at e3
    exact e3
def rEqD (K : PySem.W.Frag) (n : Nat) : R2 := fun x y H Q => ∃ (a b : Addr) (xs ys : List V), x = .ref a ∧ y = .ref b ∧ SqL K H a xs ∧ SqL K H b ys ∧ xs.length = ys.length ∧ (∀ (j : Nat) (u v : V), xs[j]? = some u → ys[j]? = some v → De H n u v) ∧ Q (.bl true) H
theorem op_eqD {n : Nat} (hu : X.A.units + 1 + n < cLine) : OpR X (compareOp .Eq) (rEqD X.K n) := by
  intro pins s σ H x y v u Q I rx ry h
  obtain ⟨a, b, xs, ys, rfl, rfl, ha, hb, hl, hd, q⟩ := h
  cases rx
  cases ry
  obtain ⟨its, r1, p1, _⟩ := I.list ha
  obtain ⟨its2, r2, p2, _⟩ := I.list hb
  have l1 := r1.length
  have l2 := r2.length
  refine SeqAt.eq_listAt (e := fun _ => true) p1.isList p2.isList (by simp only [List.size_toArray]; omega) (by omega) (fun j h1 h2 => ?_) ?_
  · simp only [List.size_toArray] at h1 h2
    have g1 := List.getElem?_eq_getElem (show j < xs.length by omega)
    have g2 := List.getElem?_eq_getElem (show j < ys.length by omega)
    obtain ⟨w1, f1, q1⟩ := r1.get g1
    obtain ⟨w2, f2, q2⟩ := r2.get g2
    have a1 : its.toArray[j]'(by simpa using h1) = w1 := by
      have := (List.getElem?_eq_some_iff.mp f1).2
      simpa using this
    have a2 : its2.toArray[j]'(by simpa using h2) = w2 := by
      have := (List.getElem?_eq_some_iff.mp f2).2
      simpa using this
    rw [a1, a2]
    exact de_eqAt I n (A := X.A.in1) (by show X.A.units + 1 + n < cLine; exact hu) (hd j _ _ g1 g2) q1 q2
  · rw [show (List.range its.toArray.size).all (fun _ => true) = true from List.all_eq_true.mpr fun _ _ => rfl]
    exact ⟨.bl true, H, I, rfl, q⟩
end
end L2
end
section
namespace K33
open PySem PySem.Spec PyProof.Rows L2
set_option maxHeartbeats 4000000
set_option maxRecDepth 100000
set_option Elab.async false
set_option linter.unusedVariables false
theorem same_keep {H H' : Hp} {r : Addr} {o : HO} (hr : H r = none) (k : Keep r (upd H r o) H') : Same H H' := fun c u h => k c u (ne_of_none h hr) (same_new hr o c u h)
def spLaw (K : PySem.W.Frag) : Sp := fun vs H Q _ => ∃ (a : Addr) (ns : List Int), vs = [.ref a] ∧ SqL K H a (ns.map V.int) ∧ ns.length ≤ 63 ∧ ∀ H', Q (.bl true) H'
theorem Keep.of {a : Addr} {H H' : Hp} (s : Same H H') : Keep a H H' := fun c o _ h => s c o h
theorem sm_ints {H : Hp} {a b : Addr} {ns : List Int} (hl : ns.length ≤ 1000) (h : (H a = some (.tup (ns.map V.int)) ∧ H b = some (.tup (ns.map V.int))) ∨ (H a = some (.lst (ns.map V.int)) ∧ H b = some (.lst (ns.map V.int)))) : Sm H 1 (.ref a) (.ref b) := by
  refine .inr ⟨a, b, _, _, rfl, rfl, h, rfl, by rw [List.length_map]; exact hl, fun i u v hu hv => ?_⟩
  rw [hu] at hv
  have e : u = v := by injection hv
  rw [List.getElem?_map] at hu
  cases q : ns[i]? with
  | none => rw [q] at hu; cases hu
  | some n =>
    rw [q] at hu
    exact ⟨e, .inl ⟨n, by injection hu with z; exact z.symm⟩⟩
theorem hu3 {k : Nat} {A : Around} (r : Room k A) : A.units + 1 + 2 < cLine := by have := r.un; omega
theorem sm_ws {H : Hp} {a b : Addr} {xs ys : List V} {W : List (List Int × List Int)} (l : W.length ≤ 1000) (lw : ∀ z ∈ W, z.1.length ≤ 1000 ∧ z.2.length ≤ 1000) (ha : H a = some (.lst xs)) (hb : H b = some (.lst ys)) (t1 : Ws H xs W) (t2 : Ws H ys W) : Sm H 3 (.ref a) (.ref b) := by
  refine .inr ⟨a, b, _, _, rfl, rfl, .inr ⟨ha, hb⟩, by rw [t1.1, t2.1], by rw [t1.1]; exact l, fun i u v hu hv => ?_⟩
  have il : i < W.length := by rw [← t1.1]; exact (List.getElem?_eq_some_iff.mp hu).1
  have lz := lw _ (List.getElem_mem il)
  obtain ⟨p, pa, pb, e1, h1, h2, h3⟩ := t1.2 i _ (List.getElem?_eq_getElem il)
  obtain ⟨q, qa, qb, f1, g1, g2, g3⟩ := t2.2 i _ (List.getElem?_eq_getElem il)
  rw [hu] at e1
  rw [hv] at f1
  cases e1
  cases f1
  refine .inr ⟨p, q, _, _, rfl, rfl, .inl ⟨h1, g1⟩, rfl, by simp, fun j u v hu hv => ?_⟩
  match j with
  | 0 => cases hu; cases hv; exact sm_ints lz.1 (.inl ⟨h2, g2⟩)
  | 1 => cases hu; cases hv; exact sm_ints lz.2 (.inl ⟨h3, g3⟩)
  | j + 2 => cases hu
/-- the waves are few and short -/
theorem wvs_small : ∀ (n N : Nat) (R : List (List Int)), BB.Gd N R → R.flatten.length ≤ 1000 → (BB.wvs n R).length ≤ n ∧ ∀ z ∈ BB.wvs n R, z.1.length ≤ 1000 ∧ z.2.length ≤ 1000
  | 0, _, _, _, _ => ⟨Nat.le_refl _, fun z h => by cases h⟩
  | n + 1, N, R, d, l => by
    show (if R = [] then [] else BB.wv R (BB.fs R) :: BB.wvs n (BB.wo R (BB.fs R))).length ≤ n + 1 ∧ ∀ z ∈ (if R = [] then [] else BB.wv R (BB.fs R) :: BB.wvs n (BB.wo R (BB.fs R))), _
    by_cases e : R = []
    · rw [if_pos e]
      exact ⟨Nat.zero_le _, fun z h => by cases h⟩
    rw [if_neg e]
    obtain ⟨pre, s, g, post, eR, ef, lsg⟩ := d.at e
    subst eR
    rw [ef]
    have fl := (BB.wo_len (pre := pre) (post := post) (s := s) (g := g)).2
    obtain ⟨i1, i2⟩ := wvs_small n (N - s.length) _ (d.wo lsg) (by omega)
    have big := BB.mem_flat l
    have bs := big s (by simp)
    refine ⟨by rw [List.length_cons]; omega, fun z hz => ?_⟩
    rcases List.mem_cons.mp hz with w | w
    · rw [w]
      unfold BB.wv
      rw [BB.getD_pre, BB.getD_pre1]
      have : (g.take s.length).length ≤ s.length := by rw [List.length_take]; omega
      split
      · exact ⟨bs, by show (g.take s.length).length ≤ _; omega⟩
      · exact ⟨by show (g.take s.length).length ≤ _; omega, bs⟩
    · exact i2 z w
section
variable {P : Program} {w : World} {K : PySem.W.Frag} {mg : Str → Option Value} {base : Heap}
set_option maxRecDepth 100000 in
theorem ok_law {f : Addr} {fd : FuncData} (F : Fun K "law" "law" s_law f fd) (nb : NbE mg) (h_L_state : Has P w K mg base 2 "_law_state" ["_law_script", "_law_k"] (spState K)) (h_L_row : Has P w K mg base 2 "_law_row" ["_law_state_here", "_law_gaps"] spRow) (h_L_far : Has P w K mg base 2 "_law_far" ["_law_state_here", "_law_row_here"] spFar) (h_L_same : Has P w K mg base 4 "_law_same" ["_law_found", "_law_due_here"] (spSame 4)) (h_waves : Has P w K mg base 3 "waves" ["row"] spWaves) (h_L_due : Has P w K mg base 2 "_law_due" ["_law_row_here"] spDue)  :
    FnOk P w K mg base CX0 5 f fd ["_law_script"] (spLaw K) := by
  have nd := sc_law.nd
  refine F.ok (k := 4) sc_law (fun vs H Q E h => ?_) (fun cdv A outer s H vs Q E hr h => ?_)
  · obtain ⟨a, ns, rfl, _⟩ := h
    rfl
  obtain ⟨a, ns, rfl, hS, h63, q⟩ := h
  refine ⟨_, (pss_cons (ps_for PassesOwn.never rfl (pi_range1 rfl nb.range (pa_cons (pe_callB (call_max2 rfl) rfl nb.max boot_max (pa_cons pe_int (pa_cons (pe_callB (call_min2 rfl) rfl nb.min boot_min (pa_cons (pe_callB call_len_seq rfl nb.len PySem.boot_len (pa_cons (pv 0) pa_nil)) (pa_cons pe_int pa_nil))) pa_nil))) pa_nil)) (pg_name (i := 1) nd rfl (Or.inl rfl))
(pss_cons (ps_set (i := 2) nd rfl (Or.inl rfl) (pe_def h_L_state hr (pa_cons (pv 0) (pa_cons (pv 1) pa_nil))))
(pss_cons (ps_set (i := 3) nd rfl (Or.inl rfl) (pe_def h_L_row hr (pa_cons (pv 2) (pa_cons (pe_lst (pa_cons pe_int (pa_cons pe_int (pa_cons pe_int pa_nil)))) pa_nil))))
(pss_one (ps_for PassesOwn.never rfl (pi_list (pe_lst (pa_cons (pv 3) (pa_cons (pe_def h_L_far hr (pa_cons (pv 2) (pa_cons (pv 3) pa_nil))) pa_nil)))) (pg_name (i := 4) nd rfl (Or.inl rfl))
(pss_one (ps_for PassesOwn.never rfl (pi_range1 rfl nb.range (pa_cons pe_int pa_nil)) (pg_name (i := 5) nd rfl (Or.inl rfl))
(pss_cons (ps_set (i := 6) nd rfl (Or.inl rfl) (pe_def h_waves hr (pa_cons (pv 4) pa_nil)))
(pss_cons (ps_if (pt_not (pt_truth (pe_def h_L_same hr (pa_cons (pv 6) (pa_cons (pe_def h_L_due hr (pa_cons (pv 4) pa_nil)) pa_nil))) (fun _ => rfl)))
(pss_one (ps_ret pe_bl))
pss_nil)
(pss_one (ps_expr (pe_bm PySem.F.plainAttrs_list PySem.F.slot_list_append PySem.F.type_list_append mt_append (pv 6) (pa_cons (pe_tup pa_nil) pa_nil)))))))))))))
(pss_one (ps_ret (pe_and (pe_cmpR (op_eqNil hr.units0) (pe_def h_waves hr (pa_cons (pe_tup pa_nil) pa_nil)) (pe_lst pa_nil) (nomark _)) (pe_one (pe_cmpR (op_eqD (n := 2) (hu3 hr)) (pe_def h_waves hr (pa_cons (pe_tup (pa_cons pe_int (pa_cons pe_int pa_nil))) pa_nil)) (pe_lst (pa_cons (pe_tup (pa_cons (pe_tup (pa_cons pe_int (pa_cons pe_int pa_nil))) (pa_cons (pe_tup (pa_cons pe_int (pa_cons pe_int pa_nil))) pa_nil))) pa_nil)) (nomark _))))))), ?_⟩
  refine ⟨_, rfl, a, _, rfl, .inl hS, _, _, rfl, _, _, rfl, _, rfl, ?_, ?_, ?_⟩
  · split <;> split <;> omega
  · split <;> split <;> omega
  refine for_range (fun i σ H' => Same H H' ∧ ∃ o1 o2 o3 o4 o5 o6, σ = [some (.ref a), o1, o2, o3, o4, o5, o6]) ⟨Same.refl H, _, _, _, _, _, _, rfl⟩ (fun i σ H0 hi hp => ?_) (fun σ H0 hp => ?_)
  · obtain ⟨sm, o1, o2, o3, o4, o5, o6, rfl⟩ := hp
    refine ⟨_, rfl, _, rfl, a, ns, _, rfl, sm.seq hS, by omega, fun r x b hr0 d => ?_⟩
    have st1 : StAt (upd H0 r (.lst [.int x, .bl b])) r x b := StAt.upd d
    generalize hG : upd H0 r (.lst [.int x, .bl b]) = G3 at st1 ⊢
    have fin : ∀ H', Keep r G3 H' → Same H H' := fun H' k => sm.trans (same_keep hr0 (by rw [hG]; exact k))
    refine ⟨_, rfl, (by show 3 ≤ sizeLine; decide), fun g hg => ?_⟩
    have s2 := same_new hg (.lst [.int 2, .int 5, .int 12])
    refine ⟨r, g, x, b, rfl, st1.same s2, upd_same, fun rr row H2 x2 kp2 st2 hrow ro => ?_⟩
    have k2 : Keep r G3 H2 := (Keep.of s2).trans kp2
    have rrr : rr ≠ r := ne_of hrow st2.1 (by intro z; cases z)
    refine ⟨_, rfl, _, rfl, _, rfl, r, rr, x2, b, row, rfl, st2, hrow, ro, fun rf row2 H3 x3 kp3 st3 hfar fa => ?_⟩
    refine ⟨(by show 2 ≤ sizeLine; decide), fun pl hpl => ⟨pl, rfl, ⟨_, SqL.of upd_same⟩, ?_⟩⟩
    have s4 := same_new hpl (.lst [.ref rr, .ref rf])
    have hpl4 : (upd H3 pl (.lst [.ref rr, .ref rf])) pl = some (.lst [.ref rr, .ref rf]) := upd_same
    have k4 := (k2.trans kp3).same s4
    have al : ∀ z ∈ [V.ref rr, V.ref rf], ∃ (p : Addr) (ms : List Int), z = .ref p ∧ (upd H3 pl (.lst [.ref rr, .ref rf])) p = some (.tup (ms.map V.int)) ∧ ms.length ≤ 12 ∧ ms.Pairwise (· < ·) ∧ ∀ p ∈ ms, -4000000000 ≤ p ∧ p ≤ 4000000000 := by
      intro z hz
      simp only [List.mem_cons, List.not_mem_nil, or_false] at hz
      rcases hz with rfl | rfl
      · exact ⟨rr, row, rfl, s4 _ _ (kp3 _ _ rrr hrow), ro.len, ro.up, fun p hp => by have := ro.bd p hp; omega⟩
      · exact ⟨rf, row2, rfl, s4 _ _ hfar, fa.len, fa.up, fun p hp => by have := fa.bd p hp; omega⟩
    generalize upd H3 pl (.lst [.ref rr, .ref rf]) = H4 at hpl4 k4 al ⊢
    refine for_list (xs := [.ref rr, .ref rf]) (fun j σ H' => Same H4 H' ∧ ∃ o4 o5 o6, σ = [some (.ref a), some (.int (0 + (i : Int))), some (.ref r), some (.ref rr), o4, o5, o6]) ⟨Same.refl _, _, _, _, rfl⟩ (fun j σ H' _ hp => SqL.of (hp.1 _ _ hpl4)) (fun j z σ H' hz hp => ?_) (fun σ H' hp => ?_)
    · obtain ⟨sm5, o4, o5, o6, rfl⟩ := hp
      obtain ⟨p, ms, rfl, hms4, ml, mu, mb⟩ := al z (List.mem_of_getElem? hz)
      have gdp := BB.lr_good (c := ms.length + 1) (Nat.le_refl _) mu
      have flp := BB.lr_flat (c := ms.length + 1) ms
      rw [← BB.pr_blk] at gdp flp
      have big : ms.length * (ms.length + 1 + 1) ≤ 12 * 14 := Nat.mul_le_mul ml (by omega)
      obtain ⟨w1, w2⟩ := wvs_small 12 _ _ gdp (by omega)
      have due := BB.waves_due mu ml 12
      refine ⟨2, rfl, by decide, by decide, ?_⟩
      refine for_range (fun k σ H'' => Same H4 H'' ∧ ∃ o5 o6, σ = [some (.ref a), some (.int (0 + (i : Int))), some (.ref r), some (.ref rr), some (.ref p), o5, o6]) ⟨sm5, _, _, rfl⟩ (fun k σ H5 hk hp => ?_) (fun σ H5 hp => ?_)
      · obtain ⟨sm6, o5, o6, rfl⟩ := hp
        have hms := sm6 _ _ hms4
        refine ⟨_, rfl, p, ms, rfl, hms, mu, ml, mb, fun rw yw H6 s6 n6 h6 ww => ?_⟩
        refine ⟨_, rfl, _, rfl, p, ms, rfl, s6 _ _ hms, mu, ml, fun rd yd H7 s7 h7 wd => ?_⟩
        rw [← due] at wd
        refine ⟨_, _, rfl, sm_ws (by omega) w2 (s7 _ _ h6) h7 (ww.same s7) wd, fun H8 s8 => ⟨_, rfl, iteF ?_⟩⟩
        have h8 := s8 _ _ (s7 _ _ h6)
        refine ⟨_, rfl, .inl ⟨rfl, _, SqL.of h8⟩, (by show 0 ≤ sizeLine; decide), fun t9 ht9 => ?_⟩
        have s9 := same_new ht9 (.tup [])
        refine ⟨rw, _, _, rfl, rfl, s9 _ _ h8, by rw [ww.1, sizeLine_eq]; omega, ?_⟩
        refine ⟨fun c o hc => ?_, _, _, rfl⟩
        rw [upd_ne (ne_of_none (sm6 _ _ hc) n6)]
        exact s9 _ _ (s8 _ _ (s7 _ _ (s6 _ _ (sm6 _ _ hc))))
      · obtain ⟨sm6, o5, o6, rfl⟩ := hp
        exact ⟨sm6, _, _, _, rfl⟩
    · obtain ⟨sm5, o4, o5, o6, rfl⟩ := hp
      exact ⟨fin _ (k4.same sm5), _, _, _, _, _, _, rfl⟩
  · refine ⟨(by show 0 ≤ sizeLine; decide), fun p1 hp1 => ⟨p1, [], rfl, upd_same, .nil, by decide, (fun p hp => by cases hp), fun r1 y1 H1 s1 n1 h1 w1 => ?_⟩⟩
    have z1 : y1 = [] := List.length_eq_zero_iff.mp w1.1
    subst z1
    refine ⟨(by show 0 ≤ sizeLine; decide), fun p2 hp2 => ⟨r1, p2, _, rfl, rfl, SqL.of (same_new hp2 _ _ _ h1), SqL.of upd_same, true, rfl, iteT ?_⟩⟩
    refine ⟨(by show 2 ≤ sizeLine; decide), fun p3 hp3 => ⟨p3, [0, 1], rfl, upd_same, by decide, by decide, by decide, fun r3 y3 H3 s3 n3 h3 w3 => ?_⟩⟩
    rw [show BB.wvs 12 (BB.pr ([0, 1] : List Int).length.succ (BB.blk [0, 1])) = [([0, 1], [2, 3])] by decide +kernel] at w3
    refine ⟨(by show 2 ≤ sizeLine; decide), fun t1 ht1 => ⟨(by show 2 ≤ sizeLine; decide), fun t2 ht2 => ⟨(by show 2 ≤ sizeLine; decide), fun t3 ht3 => ⟨(by show 1 ≤ sizeLine; decide), fun l4 hl4 => ?_⟩⟩⟩⟩
    have k1 := same_new ht1 (.tup [.int 0, .int 1])
    have f1 : (upd H3 t1 (.tup [.int 0, .int 1])) t1 = some (.tup [.int 0, .int 1]) := upd_same
    generalize upd H3 t1 (.tup [.int 0, .int 1]) = A1 at k1 f1 ht2 ht3 hl4 ⊢
    have k2 := same_new ht2 (.tup [.int 2, .int 3])
    have f2 : (upd A1 t2 (.tup [.int 2, .int 3])) t2 = some (.tup [.int 2, .int 3]) := upd_same
    generalize upd A1 t2 (.tup [.int 2, .int 3]) = A2 at k2 f2 ht3 hl4 ⊢
    have k3 := same_new ht3 (.tup [.ref t1, .ref t2])
    have f3 : (upd A2 t3 (.tup [.ref t1, .ref t2])) t3 = some (.tup [.ref t1, .ref t2]) := upd_same
    generalize upd A2 t3 (.tup [.ref t1, .ref t2]) = A3 at k3 f3 hl4 ⊢
    have k4 := same_new hl4 (.lst [.ref t3])
    have f4 : (upd A3 l4 (.lst [.ref t3])) l4 = some (.lst [.ref t3]) := upd_same
    generalize upd A3 l4 (.lst [.ref t3]) = A4 at k4 f4 ⊢
    have K := k1.trans (k2.trans (k3.trans k4))
    obtain ⟨pz, pa, pb, e1, e2, e3, e4⟩ := w3.2 0 _ rfl
    refine ⟨r3, l4, y3, _, rfl, rfl, SqL.of (K _ _ h3), SqL.of f4, w3.1, fun j u v hu hv => ?_, q _⟩
    have tw : ∀ {G : Hp} {x y : Addr} {m n : Int}, G x = some (.tup [.int m, .int n]) → G y = some (.tup [.int m, .int n]) → De G 1 (.ref x) (.ref y) := fun {G x y m n} h h' => .inr ⟨x, y, _, _, rfl, rfl, h, h', rfl, fun j u v hu hv => by
      match j with
      | 0 => cases hu; cases hv; exact ⟨_, rfl, rfl⟩
      | 1 => cases hu; cases hv; exact ⟨_, rfl, rfl⟩
      | j + 2 => cases hu⟩
    match j with
    | 0 =>
      rw [e1] at hu
      cases hu
      cases hv
      refine .inr ⟨pz, t3, _, _, rfl, rfl, K _ _ e2, k4 _ _ f3, rfl, fun j u v hu hv => ?_⟩
      match j with
      | 0 => cases hu; cases hv; exact tw (K _ _ e3) (k4 _ _ (k3 _ _ (k2 _ _ f1)))
      | 1 => cases hu; cases hv; exact tw (K _ _ e4) (k4 _ _ (k3 _ _ f2))
      | j + 2 => cases hu
    | j + 1 => cases hv
end
end K33
end
namespace K33
open PySem PySem.Spec PyProof.Rows L2
set_option maxHeartbeats 4000000
set_option Elab.async false
theorem all_mk {l : PySem.W.OpenLaw} {w : World} {K : PySem.W.Frag} {h : Heap} {mg : Str → Option Value} {fa f1 f2 f3 f4 f5 f6 f7 f8 f9 f10 f11 f12 f13 f14 f15 : Addr} (X : K.In h) (G : h.Ns mainGlobals mg) (hfa : mg "law" = some (.ref fa))
    {od1 an1 od2 an2 od3 an3 od4 an4 od5 an5 od6 an6 od7 an7 od8 an8 od9 an9 od10 an10 od11 an11 od12 an12 od13 an13 od14 an14 od15 an15 : Option Addr} {sl1 sl2 sl3 sl4 sl5 sl6 sl7 sl8 sl9 sl10 sl11 sl12 sl13 sl14 sl15 : Array (Option Value)} {oc1 kV1 dc1 pm1 cd1 ct1 oc2 kV2 dc2 pm2 cd2 ct2 oc3 kV3 dc3 pm3 cd3 ct3 oc4 kV4 dc4 pm4 cd4 ct4 oc5 kV5 dc5 pm5 cd5 ct5 oc6 kV6 dc6 pm6 cd6 ct6 oc7 kV7 dc7 pm7 cd7 ct7 oc8 kV8 dc8 pm8 cd8 ct8 oc9 kV9 dc9 pm9 cd9 ct9 oc10 kV10 dc10 pm10 cd10 ct10 oc11 kV11 dc11 pm11 cd11 ct11 oc12 kV12 dc12 pm12 cd12 ct12 oc13 kV13 dc13 pm13 cd13 ct13 oc14 kV14 dc14 pm14 cd14 ct14 oc15 kV15 dc15 pm15 cd15 ct15 : Value}
    (a1 : PySem.W.nsIn K mainGlobals "blocks_in" = some (some (.ref f1))) (l1 : K.lookup f1 = some ⟨oc1, od1, .func (PySem.W.fnOf "blocks_in" "blocks_in" (defArgs s_blocks_in) (defBody s_blocks_in) (defScope s_blocks_in) .none kV1 dc1 pm1 an1 cd1 ct1), sl1⟩) (c1 : PySem.W.codeIn K cd1 "blocks_in" = true) (k1 : PySem.W.keepIn K (.ref f1) = true)
    (a2 : PySem.W.nsIn K mainGlobals "runs_in" = some (some (.ref f2))) (l2 : K.lookup f2 = some ⟨oc2, od2, .func (PySem.W.fnOf "runs_in" "runs_in" (defArgs s_runs_in) (defBody s_runs_in) (defScope s_runs_in) .none kV2 dc2 pm2 an2 cd2 ct2), sl2⟩) (c2 : PySem.W.codeIn K cd2 "runs_in" = true) (k2 : PySem.W.keepIn K (.ref f2) = true)
    (a3 : PySem.W.nsIn K mainGlobals "first_short" = some (some (.ref f3))) (l3 : K.lookup f3 = some ⟨oc3, od3, .func (PySem.W.fnOf "first_short" "first_short" (defArgs s_first_short) (defBody s_first_short) (defScope s_first_short) .none kV3 dc3 pm3 an3 cd3 ct3), sl3⟩) (c3 : PySem.W.codeIn K cd3 "first_short" = true) (k3 : PySem.W.keepIn K (.ref f3) = true)
    (a4 : PySem.W.nsIn K mainGlobals "without_wave" = some (some (.ref f4))) (l4 : K.lookup f4 = some ⟨oc4, od4, .func (PySem.W.fnOf "without_wave" "without_wave" (defArgs s_without_wave) (defBody s_without_wave) (defScope s_without_wave) .none kV4 dc4 pm4 an4 cd4 ct4), sl4⟩) (c4 : PySem.W.codeIn K cd4 "without_wave" = true) (k4 : PySem.W.keepIn K (.ref f4) = true)
    (a5 : PySem.W.nsIn K mainGlobals "waves" = some (some (.ref f5))) (l5 : K.lookup f5 = some ⟨oc5, od5, .func (PySem.W.fnOf "waves" "waves" (defArgs s_waves) (defBody s_waves) (defScope s_waves) .none kV5 dc5 pm5 an5 cd5 ct5), sl5⟩) (c5 : PySem.W.codeIn K cd5 "waves" = true) (k5 : PySem.W.keepIn K (.ref f5) = true)
    (a6 : PySem.W.nsIn K mainGlobals "_law_cell_at" = some (some (.ref f6))) (l6 : K.lookup f6 = some ⟨oc6, od6, .func (PySem.W.fnOf "_law_cell_at" "_law_cell_at" (defArgs s_L_cell_at) (defBody s_L_cell_at) (defScope s_L_cell_at) .none kV6 dc6 pm6 an6 cd6 ct6), sl6⟩) (c6 : PySem.W.codeIn K cd6 "_law_cell_at" = true) (k6 : PySem.W.keepIn K (.ref f6) = true)
    (a7 : PySem.W.nsIn K mainGlobals "_law_state" = some (some (.ref f7))) (l7 : K.lookup f7 = some ⟨oc7, od7, .func (PySem.W.fnOf "_law_state" "_law_state" (defArgs s_L_state) (defBody s_L_state) (defScope s_L_state) .none kV7 dc7 pm7 an7 cd7 ct7), sl7⟩) (c7 : PySem.W.codeIn K cd7 "_law_state" = true) (k7 : PySem.W.keepIn K (.ref f7) = true)
    (a8 : PySem.W.nsIn K mainGlobals "_law_take" = some (some (.ref f8))) (l8 : K.lookup f8 = some ⟨oc8, od8, .func (PySem.W.fnOf "_law_take" "_law_take" (defArgs s_L_take) (defBody s_L_take) (defScope s_L_take) .none kV8 dc8 pm8 an8 cd8 ct8), sl8⟩) (c8 : PySem.W.codeIn K cd8 "_law_take" = true) (k8 : PySem.W.keepIn K (.ref f8) = true)
    (a9 : PySem.W.nsIn K mainGlobals "_law_row" = some (some (.ref f9))) (l9 : K.lookup f9 = some ⟨oc9, od9, .func (PySem.W.fnOf "_law_row" "_law_row" (defArgs s_L_row) (defBody s_L_row) (defScope s_L_row) .none kV9 dc9 pm9 an9 cd9 ct9), sl9⟩) (c9 : PySem.W.codeIn K cd9 "_law_row" = true) (k9 : PySem.W.keepIn K (.ref f9) = true)
    (a10 : PySem.W.nsIn K mainGlobals "_law_far" = some (some (.ref f10))) (l10 : K.lookup f10 = some ⟨oc10, od10, .func (PySem.W.fnOf "_law_far" "_law_far" (defArgs s_L_far) (defBody s_L_far) (defScope s_L_far) .none kV10 dc10 pm10 an10 cd10 ct10), sl10⟩) (c10 : PySem.W.codeIn K cd10 "_law_far" = true) (k10 : PySem.W.keepIn K (.ref f10) = true)
    (a11 : PySem.W.nsIn K mainGlobals "_law_same" = some (some (.ref f11))) (l11 : K.lookup f11 = some ⟨oc11, od11, .func (PySem.W.fnOf "_law_same" "_law_same" (defArgs s_L_same) (defBody s_L_same) (defScope s_L_same) .none kV11 dc11 pm11 an11 cd11 ct11), sl11⟩) (c11 : PySem.W.codeIn K cd11 "_law_same" = true) (k11 : PySem.W.keepIn K (.ref f11) = true)
    (a12 : PySem.W.nsIn K mainGlobals "_law_boxes" = some (some (.ref f12))) (l12 : K.lookup f12 = some ⟨oc12, od12, .func (PySem.W.fnOf "_law_boxes" "_law_boxes" (defArgs s_L_boxes) (defBody s_L_boxes) (defScope s_L_boxes) .none kV12 dc12 pm12 an12 cd12 ct12), sl12⟩) (c12 : PySem.W.codeIn K cd12 "_law_boxes" = true) (k12 : PySem.W.keepIn K (.ref f12) = true)
    (a13 : PySem.W.nsIn K mainGlobals "_law_runs" = some (some (.ref f13))) (l13 : K.lookup f13 = some ⟨oc13, od13, .func (PySem.W.fnOf "_law_runs" "_law_runs" (defArgs s_L_runs) (defBody s_L_runs) (defScope s_L_runs) .none kV13 dc13 pm13 an13 cd13 ct13), sl13⟩) (c13 : PySem.W.codeIn K cd13 "_law_runs" = true) (k13 : PySem.W.keepIn K (.ref f13) = true)
    (a14 : PySem.W.nsIn K mainGlobals "_law_due" = some (some (.ref f14))) (l14 : K.lookup f14 = some ⟨oc14, od14, .func (PySem.W.fnOf "_law_due" "_law_due" (defArgs s_L_due) (defBody s_L_due) (defScope s_L_due) .none kV14 dc14 pm14 an14 cd14 ct14), sl14⟩) (c14 : PySem.W.codeIn K cd14 "_law_due" = true) (k14 : PySem.W.keepIn K (.ref f14) = true)
    (a15 : PySem.W.nsIn K mainGlobals "law" = some (some (.ref f15))) (l15 : K.lookup f15 = some ⟨oc15, od15, .func (PySem.W.fnOf "law" "law" (defArgs s_law) (defBody s_law) (defScope s_law) .none kV15 dc15 pm15 an15 cd15 ct15), sl15⟩) (c15 : PySem.W.codeIn K cd15 "law" = true) (k15 : PySem.W.keepIn K (.ref f15) = true)
    (z1 : PySem.W.nsIn K mainGlobals "len" = some none) (z2 : PySem.W.nsIn K mainGlobals "isinstance" = some none) (z3 : PySem.W.nsIn K mainGlobals "bool" = some none) (z4 : PySem.W.nsIn K mainGlobals "int" = some none) (z5 : PySem.W.nsIn K mainGlobals "tuple" = some none) (z6 : PySem.W.nsIn K mainGlobals "list" = some none) (z7 : PySem.W.nsIn K mainGlobals "range" = some none) (z8 : PySem.W.nsIn K mainGlobals "zip" = some none) (z9 : PySem.W.nsIn K mainGlobals "all" = some none) (z10 : PySem.W.nsIn K mainGlobals "max" = some none) (z11 : PySem.W.nsIn K mainGlobals "min" = some none) (z12 : PySem.W.nsIn K mainGlobals "reversed" = some none) (z13 : PySem.W.nsIn K mainGlobals "abs" = some none) (z14 : PySem.W.nsIn K mainGlobals "dict" = some none) (z15 : PySem.W.nsIn K mainGlobals "sorted" = some none) (z16 : PySem.W.nsIn K mainGlobals "enumerate" = some none) :
    ∃ fd : FuncData, (∀ (s : Shared) (v : Value), BindsTo s fd ⟨[v], []⟩ [("_law_script", v)]) ∧ ∀ base : Heap, K.In base → base.Ns mainGlobals mg → FnOk l.prog w K mg base CX0 5 fa fd ["_law_script"] (spLaw K) := by
  have e := hfa.symm.trans (PySem.W.mg_of X G a15)
  cases e
  have F1 := fun_mk (st := s_blocks_in) l1 c1 k1
  have b1 := F1.binds (ps := ["row"]) fun _ _ _ _ _ _ us hl => match us, hl with | [_], _ => rfl
  have F2 := fun_mk (st := s_runs_in) l2 c2 k2
  have b2 := F2.binds (ps := ["row"]) fun _ _ _ _ _ _ us hl => match us, hl with | [_], _ => rfl
  have F3 := fun_mk (st := s_first_short) l3 c3 k3
  have b3 := F3.binds (ps := ["runs"]) fun _ _ _ _ _ _ us hl => match us, hl with | [_], _ => rfl
  have F4 := fun_mk (st := s_without_wave) l4 c4 k4
  have b4 := F4.binds (ps := ["runs", "at"]) fun _ _ _ _ _ _ us hl => match us, hl with | [_, _], _ => rfl
  have F5 := fun_mk (st := s_waves) l5 c5 k5
  have b5 := F5.binds (ps := ["row"]) fun _ _ _ _ _ _ us hl => match us, hl with | [_], _ => rfl
  have F6 := fun_mk (st := s_L_cell_at) l6 c6 k6
  have b6 := F6.binds (ps := ["_law_script", "_law_k"]) fun _ _ _ _ _ _ us hl => match us, hl with | [_, _], _ => rfl
  have F7 := fun_mk (st := s_L_state) l7 c7 k7
  have b7 := F7.binds (ps := ["_law_script", "_law_k"]) fun _ _ _ _ _ _ us hl => match us, hl with | [_, _], _ => rfl
  have F8 := fun_mk (st := s_L_take) l8 c8 k8
  have b8 := F8.binds (ps := ["_law_state_here", "_law_many"]) fun _ _ _ _ _ _ us hl => match us, hl with | [_, _], _ => rfl
  have F9 := fun_mk (st := s_L_row) l9 c9 k9
  have b9 := F9.binds (ps := ["_law_state_here", "_law_gaps"]) fun _ _ _ _ _ _ us hl => match us, hl with | [_, _], _ => rfl
  have F10 := fun_mk (st := s_L_far) l10 c10 k10
  have b10 := F10.binds (ps := ["_law_state_here", "_law_row_here"]) fun _ _ _ _ _ _ us hl => match us, hl with | [_, _], _ => rfl
  have F11 := fun_mk (st := s_L_same) l11 c11 k11
  have b11 := F11.binds (ps := ["_law_found", "_law_due_here"]) fun _ _ _ _ _ _ us hl => match us, hl with | [_, _], _ => rfl
  have F12 := fun_mk (st := s_L_boxes) l12 c12 k12
  have b12 := F12.binds (ps := ["_law_row_here"]) fun _ _ _ _ _ _ us hl => match us, hl with | [_], _ => rfl
  have F13 := fun_mk (st := s_L_runs) l13 c13 k13
  have b13 := F13.binds (ps := ["_law_boxes_here"]) fun _ _ _ _ _ _ us hl => match us, hl with | [_], _ => rfl
  have F14 := fun_mk (st := s_L_due) l14 c14 k14
  have b14 := F14.binds (ps := ["_law_row_here"]) fun _ _ _ _ _ _ us hl => match us, hl with | [_], _ => rfl
  have F15 := fun_mk (st := s_law) l15 c15 k15
  have nb0 : Nb mg := ⟨PySem.W.mg_none_of X G z1, PySem.W.mg_none_of X G z2, PySem.W.mg_none_of X G z3, PySem.W.mg_none_of X G z4, PySem.W.mg_none_of X G z5, PySem.W.mg_none_of X G z6, PySem.W.mg_none_of X G z7, PySem.W.mg_none_of X G z8, PySem.W.mg_none_of X G z9, PySem.W.mg_none_of X G z10, PySem.W.mg_none_of X G z11⟩
  have nb2 : Nb2 mg := ⟨nb0, PySem.W.mg_none_of X G z12, PySem.W.mg_none_of X G z13⟩
  have nb3 : Nb3 mg := ⟨nb2, PySem.W.mg_none_of X G z14, PySem.W.mg_none_of X G z15⟩
  have nbE : NbE mg := ⟨nb3, PySem.W.mg_none_of X G z16⟩
  refine ⟨PySem.W.fnOf "law" "law" (defArgs s_law) (defBody s_law) (defScope s_law) .none kV15 dc15 pm15 an15 cd15 ct15, fun s v => .of_eq rfl, fun base _ _ => ?_⟩
  have h_blocks_in : Has l.prog w K mg base 1 "blocks_in" ["row"] spBin := ⟨f1, _, ok_blocks_in F1 nb2 , PySem.W.mg_of X G a1, k1, b1⟩
  have h_runs_in : Has l.prog w K mg base 2 "runs_in" ["row"] spRuns := ⟨f2, _, ok_runs_in F2 nbE h_blocks_in, PySem.W.mg_of X G a2, k2, b2⟩
  have h_first_short : Has l.prog w K mg base 1 "first_short" ["runs"] spFs := ⟨f3, _, ok_first_short F3 nbE , PySem.W.mg_of X G a3, k3, b3⟩
  have h_without_wave : Has l.prog w K mg base 1 "without_wave" ["runs", "at"] spWo := ⟨f4, _, ok_without_wave F4 nbE , PySem.W.mg_of X G a4, k4, b4⟩
  have h_waves : Has l.prog w K mg base 3 "waves" ["row"] spWaves := ⟨f5, _, ok_waves F5 nbE h_runs_in h_first_short h_without_wave, PySem.W.mg_of X G a5, k5, b5⟩
  have h_L_cell_at : Has l.prog w K mg base 1 "_law_cell_at" ["_law_script", "_law_k"] (spCell K) := ⟨f6, _, ok_L_cell_at F6 nb0 , PySem.W.mg_of X G a6, k6, b6⟩
  have h_L_state : Has l.prog w K mg base 2 "_law_state" ["_law_script", "_law_k"] (spState K) := ⟨f7, _, ok_L_state F7 nb0 h_L_cell_at, PySem.W.mg_of X G a7, k7, b7⟩
  have h_L_take : Has l.prog w K mg base 1 "_law_take" ["_law_state_here", "_law_many"] (spTake K) := ⟨f8, _, ok_L_take F8 nb0 , PySem.W.mg_of X G a8, k8, b8⟩
  have h_L_row : Has l.prog w K mg base 2 "_law_row" ["_law_state_here", "_law_gaps"] spRow := ⟨f9, _, ok_L_row F9 nb0 h_L_take, PySem.W.mg_of X G a9, k9, b9⟩
  have h_L_far : Has l.prog w K mg base 2 "_law_far" ["_law_state_here", "_law_row_here"] spFar := ⟨f10, _, ok_L_far F10 nb0 h_L_take, PySem.W.mg_of X G a10, k10, b10⟩
  have hs0 : Has l.prog w K mg base 0 "_law_same" ["_law_found", "_law_due_here"] (spSame 0) := ⟨f11, _, none_left, PySem.W.mg_of X G a11, k11, b11⟩
  have hs1 : Has l.prog w K mg base 1 "_law_same" ["_law_found", "_law_due_here"] (spSame 1) := ⟨f11, _, ok_L_same F11 nb2 hs0, PySem.W.mg_of X G a11, k11, b11⟩
  have hs2 : Has l.prog w K mg base 2 "_law_same" ["_law_found", "_law_due_here"] (spSame 2) := ⟨f11, _, ok_L_same F11 nb2 hs1, PySem.W.mg_of X G a11, k11, b11⟩
  have hs3 : Has l.prog w K mg base 3 "_law_same" ["_law_found", "_law_due_here"] (spSame 3) := ⟨f11, _, ok_L_same F11 nb2 hs2, PySem.W.mg_of X G a11, k11, b11⟩
  have h_L_same : Has l.prog w K mg base 4 "_law_same" ["_law_found", "_law_due_here"] (spSame 4) := ⟨f11, _, ok_L_same F11 nb2 hs3, PySem.W.mg_of X G a11, k11, b11⟩
  have h_L_boxes : Has l.prog w K mg base 1 "_law_boxes" ["_law_row_here"] spBoxes := ⟨f12, _, ok_L_boxes F12 nbE , PySem.W.mg_of X G a12, k12, b12⟩
  have h_L_runs : Has l.prog w K mg base 1 "_law_runs" ["_law_boxes_here"] spRn := ⟨f13, _, ok_L_runs F13 nbE , PySem.W.mg_of X G a13, k13, b13⟩
  have h_L_due : Has l.prog w K mg base 2 "_law_due" ["_law_row_here"] spDue := ⟨f14, _, ok_L_due F14 nbE h_L_boxes h_L_runs, PySem.W.mg_of X G a14, k14, b14⟩
  exact ok_law F15 nbE h_L_state h_L_row h_L_far h_L_same h_waves h_L_due
theorem walk {l : PySem.W.OpenLaw} {q : Program} {loose : List Str} {XP : (Str → Option Value) → Heap → Prop} {YP : World → Heap → Prop} {d : DefRec} {K : Params → PySem.W.Frag} (hn : l.most = some 63) (hdf : d.params.defaults = [])
    (hY : ∀ (w : World) (h : Heap), YP w h → (K w.params).In h)
    (F : ∀ (w : World) (mg : Str → Option Value) (fa : Addr) (h : Heap), (K w.params).In h → h.Ns mainGlobals mg → mg d.name = some (.ref fa) →
      ∃ fd : FuncData, (∀ (s : Shared) (u : Value), BindsTo s fd ⟨[u], []⟩ [("_law_script", u)]) ∧ ∀ base : Heap, (K w.params).In base → base.Ns mainGlobals mg → FnOk l.prog w (K w.params) mg base CX0 5 fa fd ["_law_script"] (spLaw (K w.params))) :
    PySem.W.WalkO q loose XP YP l.row.toRowW d [] (fun f vs => PySem.call f vs) :=
  L2.walk_of (n := 63) (k := 5) (x := "_law_script") (CX := fun _ => CX0) (sp := fun w => spLaw (K w.params)) hn (by decide) hdf ⟨rfl, by decide, by decide⟩ hY F (fun _ _ a ns hl _ hS => ⟨a, ns, rfl, hS, hl, fun _ => rfl⟩) fun _ _ _ _ _ z => z
end K33
open PySem PySem.W PyProof.Rows
set_option maxRecDepth 100000 in
set_option maxHeartbeats 0 in
theorem PySem.Challenge.cw_boxballs_k33_waves_holds : PySem.Challenge.rw_boxballs_k33_waves.Holds := by
  w_on; o_law; k_head; (case hw => w_witness2)
  k_fill
  refine K33.walk (l := PySem.Challenge.rw_boxballs_k33_waves) rfl rfl (fun w h Y => PySem.W.kIn_of Y) ?F
  case F =>
    intro w mg fa h KX G hmg
    refine' K33.all_mk KX G hmg ?a1 ?l1 ?c1 ?k1 ?a2 ?l2 ?c2 ?k2 ?a3 ?l3 ?c3 ?k3 ?a4 ?l4 ?c4 ?k4 ?a5 ?l5 ?c5 ?k5 ?a6 ?l6 ?c6 ?k6 ?a7 ?l7 ?c7 ?k7 ?a8 ?l8 ?c8 ?k8 ?a9 ?l9 ?c9 ?k9 ?a10 ?l10 ?c10 ?k10 ?a11 ?l11 ?c11 ?k11 ?a12 ?l12 ?c12 ?k12 ?a13 ?l13 ?c13 ?k13 ?a14 ?l14 ?c14 ?k14 ?a15 ?l15 ?c15 ?k15 ?z1 ?z2 ?z3 ?z4 ?z5 ?z6 ?z7 ?z8 ?z9 ?z10 ?z11 ?z12 ?z13 ?z14 ?z15 ?z16
    (case a1 => k_is); (case l1 => k_is); (case c1 => k_is); (case k1 => k_is)
    (case a2 => k_is); (case l2 => k_is); (case c2 => k_is); (case k2 => k_is)
    (case a3 => k_is); (case l3 => k_is); (case c3 => k_is); (case k3 => k_is)
    (case a4 => k_is); (case l4 => k_is); (case c4 => k_is); (case k4 => k_is)
    (case a5 => k_is); (case l5 => k_is); (case c5 => k_is); (case k5 => k_is)
    (case a6 => k_is); (case l6 => k_is); (case c6 => k_is); (case k6 => k_is)
    (case a7 => k_is); (case l7 => k_is); (case c7 => k_is); (case k7 => k_is)
    (case a8 => k_is); (case l8 => k_is); (case c8 => k_is); (case k8 => k_is)
    (case a9 => k_is); (case l9 => k_is); (case c9 => k_is); (case k9 => k_is)
    (case a10 => k_is); (case l10 => k_is); (case c10 => k_is); (case k10 => k_is)
    (case a11 => k_is); (case l11 => k_is); (case c11 => k_is); (case k11 => k_is)
    (case a12 => k_is); (case l12 => k_is); (case c12 => k_is); (case k12 => k_is)
    (case a13 => k_is); (case l13 => k_is); (case c13 => k_is); (case k13 => k_is)
    (case a14 => k_is); (case l14 => k_is); (case c14 => k_is); (case k14 => k_is)
    (case a15 => k_is); (case l15 => k_is); (case c15 => k_is); (case k15 => k_is)
    (case z1 => k_is)
    (case z2 => k_is)
    (case z3 => k_is)
    (case z4 => k_is)
    (case z5 => k_is)
    (case z6 => k_is)
    (case z7 => k_is)
    (case z8 => k_is)
    (case z9 => k_is)
    (case z10 => k_is)
    (case z11 => k_is)
    (case z12 => k_is)
    (case z13 => k_is)
    (case z14 => k_is)
    (case z15 => k_is)
    (case z16 => k_is)
