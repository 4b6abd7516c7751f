import PyProof.Rows.All
import Wide.All
import OpenK.AllK
import Wide.FinOn
import Lean
import PyProof.EqAt
import PyProof.EqKinds
import PyProof.TupleCall
import PyProof.TupleOfGen
import PyProof.ListRange
import PyProof.Rows.ZipGen
import KE.KRevIter
import PyProof.NeKinds
import PyProof.CompUse
import KE.KDictSum
import PyProof.Rows.SortWalk
import PyProof.AttrMissHeap
import KE.KDictOf
import KE.KSortTup
import PyProof.StationsW
import PyProof.ExcClass2
import PyProof.ExcBaseAll.ValueError
import OpenK.KOwn
import PyProof.RulesAs
import PyProof.Rows.Catch
import PyProof.ExcAttrAll.ValueError
import KE.KIsAll
import PyProof.NsDelKeeps
import KE.KLam
import KE.KTupSum
import KE.KItemsList
import PySem.Challenge.RW_boxballs_k82_all_rows_of_few_boxes
section
-- CHANGE: your row's module here, as the last of these rows
set_option Elab.async false
set_option linter.all false
set_option maxRecDepth 100000
/-! THE HAND LAYER, for ints, bools, texts, own classes, LISTS and tuples (index, slices, in, append, pop ..), calls, loops. Paste it whole ahead of your own text; what your proof does not reach may be deleted. -/
namespace L2
open PySem PySem.Spec PyProof.Rows

/-- a key: an int or a str -/
abbrev Key := Sum Int Str
def keyIs : Key → Value → Bool
  | .inl k, v => Value.isInt k v
  | .inr x, v => Value.isStrOf x v
def keyH (w : World) : Key → Int
  | .inl k => hashInt k
  | .inr x => hashStr w x
theorem keyIs_shape : ∀ {k : Key} {v : Value}, keyIs k v = true → (∃ i t, k = Sum.inl i ∧ v = Value.int i t) ∨ (∃ x t, k = Sum.inr x ∧ v = Value.str x t)
  | .inl i, v, h => by
    obtain ⟨t, e⟩ := Value.isInt_shape (k := i) (v := v) h
    exact .inl ⟨i, t, rfl, e⟩
  | .inr x, v, h => by
    obtain ⟨t, e⟩ := Value.isStrOf_shape (x := x) (v := v) h
    exact .inr ⟨x, t, rfl, e⟩
theorem key_ll (a b : Int) : decide ((Sum.inl a : Key) = Sum.inl b) = (a == b) := by
  by_cases e : a = b
  · subst e; simp
  · have h : ¬ (Sum.inl a : Key) = Sum.inl b := fun q => e (Sum.inl.inj q)
    rw [decide_eq_false h]
    exact (beq_eq_false_iff_ne.mpr e).symm
theorem key_rr (a b : Str) : decide ((Sum.inr a : Key) = Sum.inr b) = decide (a = b) := by
  by_cases e : a = b
  · subst e; simp
  · have h : ¬ (Sum.inr a : Key) = Sum.inr b := fun q => e (Sum.inr.inj q)
    rw [decide_eq_false h, decide_eq_false e]
theorem key_lr (a : Int) (b : Str) : decide ((Sum.inl a : Key) = Sum.inr b) = false := decide_eq_false (fun q => nomatch q)
theorem key_rl (a : Str) (b : Int) : decide ((Sum.inr a : Key) = Sum.inl b) = false := decide_eq_false (fun q => nomatch q)

def mixKind (prog : Program) (w : World) : PySem.KeyKind prog w Key where
  is := keyIs
  hash := keyH w
  inj := fun v a b ha hb => by
    rcases keyIs_shape ha with ⟨i, t, rfl, rfl⟩ | ⟨x, t, rfl, rfl⟩
    · rcases keyIs_shape hb with ⟨j, u, rfl, e⟩ | ⟨y, u, rfl, e⟩
      · injection e with e1 _; rw [e1]
      · exact nomatch e
    · rcases keyIs_shape hb with ⟨j, u, rfl, e⟩ | ⟨y, u, rfl, e⟩
      · exact nomatch e
      · injection e with e1 _; rw [e1]
  byValue := fun k v h => by
    rcases keyIs_shape h with ⟨i, t, rfl, rfl⟩ | ⟨x, t, rfl, rfl⟩ <;> rfl
  pyHash := fun hv h => by
    rcases keyIs_shape hv with ⟨i, t, rfl, rfl⟩ | ⟨x, t, rfl, rfl⟩
    · exact wpAny_pyHash_int h
    · exact wpAny_pyHash_str h
  eqBool := fun hu hv h => by
    rcases keyIs_shape hu with ⟨i, t, rfl, rfl⟩ | ⟨x, t, rfl, rfl⟩
    · rcases keyIs_shape hv with ⟨j, u, rfl, rfl⟩ | ⟨y, u, rfl, rfl⟩
      · rw [key_ll] at h; exact wpAny_eqBool_int h
      · rw [key_lr] at h; exact SeqAt.EqAt.int_str i t y u _ _ _ _ h
    · rcases keyIs_shape hv with ⟨j, u, rfl, rfl⟩ | ⟨y, u, rfl, rfl⟩
      · rw [key_rl] at h; exact SeqAt.EqAt.str_int x t j u _ _ _ _ h
      · rw [key_rr] at h; exact wpAny_eqBool_str h
  «strs» := fun k x t v h => by
    rcases keyIs_shape h with ⟨i, u, rfl, e⟩ | ⟨y, u, rfl, e⟩
    · exact nomatch e
    · injection e with e1 _
      subst e1
      cases v <;> rfl

end L2

namespace L2
open PySem PySem.Spec PyProof.Rows

/-- a value, without the heap -/
inductive V where
  | non | bl (b : Bool) | int (i : Int) | str (x : Str) | byt (b : Array UInt8) | flt (b : UInt64) | ref (a : Addr) | ty (n : String)
  deriving DecidableEq

def RelV : V → Value → Prop
  | .non, u => u = Value.none
  | .bl b, u => u = Value.bool b
  | .int i, u => ∃ t, u = Value.int i t
  | .str x, u => ∃ t, u = Value.str x t
  | .byt b, u => ∃ t, u = Value.bytes b t
  | .flt b, u => ∃ t, u = Value.float b t
  | .ref a, u => u = Value.ref a
  | .ty n, u => u = Value.type n

abbrev Vals : List V → List Value → Prop := Paired RelV
theorem Vals.length {xs : List V} {us : List Value} (r : Vals xs us) : xs.length = us.length := Paired.length r
theorem Vals.get : ∀ {xs : List V} {us : List Value} {i : Nat} {x : V}, Vals xs us → xs[i]? = some x → ∃ u, us[i]? = some u ∧ RelV x u
  | _, _, _, _, .nil, e => by simp at e
  | _, _, 0, _, .cons r _, e => by simp at e; subst e; exact ⟨_, rfl, r⟩
  | _, _, i + 1, x, .cons _ t, e => by
    obtain ⟨u, h1, h2⟩ := Vals.get (i := i) (x := x) t (by simpa using e)
    exact ⟨u, by simpa using h1, h2⟩
theorem Vals.set {x : V} {u : Value} (r : RelV x u) : ∀ {xs : List V} {us : List Value} (i : Nat), Vals xs us → Vals (xs.set i x) (us.set i u)
  | _, _, _, .nil => .nil
  | _, _, 0, .cons _ t => .cons r t
  | _, _, i + 1, .cons q t => .cons q (Vals.set r i t)
theorem Vals.append : ∀ {xs ys : List V} {us ws : List Value}, Vals xs us → Vals ys ws → Vals (xs ++ ys) (us ++ ws)
  | _, _, _, _, .nil, s => s
  | _, _, _, _, .cons r t, s => .cons r (Vals.append t s)
theorem Vals.take : ∀ {xs : List V} {us : List Value} (n : Nat), Vals xs us → Vals (xs.take n) (us.take n)
  | _, _, 0, _ => .nil
  | _, _, _ + 1, .nil => .nil
  | _, _, n + 1, .cons r t => .cons r (Vals.take n t)
theorem Vals.drop : ∀ {xs : List V} {us : List Value} (n : Nat), Vals xs us → Vals (xs.drop n) (us.drop n)
  | _, _, 0, r => r
  | _, _, _ + 1, .nil => .nil
  | _, _, n + 1, .cons _ t => Vals.drop n t
theorem Vals.none_of : ∀ {xs : List V} {us : List Value} {i : Nat}, Vals xs us → xs[i]? = none → us[i]? = none := fun {xs us i} r e => by
  have h1 := r.length
  have h2 : xs.length ≤ i := List.getElem?_eq_none_iff.mp e
  exact List.getElem?_eq_none_iff.mpr (by omega)

def RelO : Option V → Option Value → Prop
  | some v, some u => RelV v u
  | none, none => True
  | _, _ => False
def KV {κ : Type} : List (κ × V) → List (κ × Value) → Prop := Paired fun (p : κ × V) (q : κ × Value) => p.1 = q.1 ∧ RelV p.2 q.2

/-- a key of a dict (00_mix): an int or a text -/
def kV : Key → V
  | .inl i => .int i
  | .inr x => .str x

/-- what stands at a tracked address -/
inductive HO where
  /-- a list -/
  | lst (xs : List V)
  /-- a tuple (never changes) -/
  | tup (xs : List V)
  /-- a dict whose keys are ints and texts; one whose keys are tuples of ints and texts (the empty one is both) -/
  | dK (kvs : List (Key × V)) | dT (kvs : List (List Key × V))
  /-- a set of ints: its members, its size -/
  | set (S : Int → Bool) (n : Nat)
  /-- an instance of the class at C, its dict at dx, its attributes -/
  | ins (C dx : Addr) (fs : List (Str × V))
  /-- the dict of the instance at x -/
  | own (x : Addr)
  /-- the dict of an exception -/
  | xd (fs : List (Str × V))
  /-- a bound method, f of x -/
  | met (f x : Addr)
  /-- a range object lo, lo + 1, .. below hi -/
  | rng (lo hi : Int)
  /-- a thing that is known to the object (the script; a dict while a loop walks it): read, never written while it is so -/
  | frz (o : Obj) (u : HO)
  /-- a code object's table -/
  | tbl (ps : Array Value)
  /-- any other thing, by what is true of its one object (a def of one's own: SetO a S n := HO.ext fun h => ..) -/
  | ext (φ : Heap → Prop)

abbrev Hp := Addr → Option HO
def upd (H : Hp) (a : Addr) (o : HO) : Hp := fun b => if b = a then some o else H b
theorem upd_same {H : Hp} {a : Addr} {o : HO} : upd H a o a = some o := by unfold upd; rw [if_pos rfl]
theorem upd_ne {H : Hp} {a b : Addr} {o : HO} (h : b ≠ a) : upd H a o b = H b := by unfold upd; rw [if_neg h]
/-- two objects of different content stand apart -/
theorem ne_of {H : Hp} {a b : Addr} {o u : HO} (h : H a = some o) (h' : H b = some u) (d : o ≠ u) : a ≠ b := by
  intro e; subst e; rw [h] at h'; exact d (Option.some.inj h')
theorem ne_of_none {H : Hp} {a b : Addr} {o : HO} (h : H a = some o) (h' : H b = none) : a ≠ b := by
  intro e; subst e; rw [h] at h'; cases h'

section
variable (P : Program) (w : World)
def ObjOk (H : Hp) (h : Heap) (a : Addr) : HO → Prop
  | .lst xs => xs.length ≤ sizeLine ∧ ∃ (its : List Value) (n : Nat), Vals xs its ∧ h.get? a = some { cls := .type "list", data := .seq its.toArray n }
  | .tup xs => xs.length ≤ sizeLine ∧ ∃ its : List Value, Vals xs its ∧ IsTup h a its.toArray
  | .dK kvs => kvs.length ≤ sizeLine ∧ (a == sysModules) = false ∧ ∃ vs, KV kvs vs ∧ h.DictOf (mixKind P w) a vs
  | .dT kvs => kvs.length ≤ sizeLine ∧ (a == sysModules) = false ∧ ∃ xs : List (List Key × Addr × Value),
      Paired (fun (p : List Key × V) (q : List Key × Addr × Value) => p.1 = q.1 ∧ H q.2.1 = some (.tup (p.1.map kV)) ∧ RelV p.2 q.2.2) kvs xs ∧
      ∃ o es ep, h.get? a = some o ∧ o.ExactDict ∧ o.data = .dict es ep ∧ es.toList = xs.map (entryOfKey (tupleKind (mixKind P w))) ∧ (xs.map (·.1)).Nodup
  | .set S n => h.SetOf (intKind P w) a S n
  | .ins C dx fs => H dx = some (.own a) ∧ fs.length ≤ 1000 ∧ dx ≠ a ∧ h.get? a = some (PySem.W.instObj C dx) ∧
      ∃ mA, h.Ns1 dx mA ∧ (∀ f, RelO (fs.lookup f) (mA f)) ∧ PySem.Within mA (fs.map (·.1))
  | .own _ => ∃ o, h.get? a = some o
  | .xd fs => ∃ mA, h.Ns1 a mA ∧ ∀ f, RelO (fs.lookup f) (mA f)
  | .rng lo hi => ∃ t u v, h.get? a = some { cls := .type "range", data := .fields #[.int lo t, .int hi u, .int 1 v] }
  | .frz o u => h.get? a = some o ∧ ObjOk H h a u
  | .tbl ps => h.get? a = some { cls := .none, data := .fields ps }
  | .met f x => h.get? a = some (PySem.W.methodObj (.ref f) (.ref x))
  | .ext φ => φ h ∧ (∃ o, h.get? a = some o) ∧ ∀ h1 h2 : Heap, φ h1 → (∀ o, h1.get? a = some o → h2.get? a = some o) → φ h2
/-- the abstract heap is held -/
def HOk (H : Hp) (h : Heap) : Prop := ∀ a o, H a = some o → ObjOk P w H h a o
end

section
variable {P : Program} {w : World} {H H' : Hp} {h h' : Heap} {a : Addr} {o : HO}
theorem ObjOk.lt (x : ObjOk P w H h a o) : a < h.objs.size := by
  cases o with
  | lst xs => obtain ⟨_, _, _, _, e⟩ := x; exact Heap.lt_size e
  | tup xs => obtain ⟨_, _, _, p⟩ := x; exact p.lt
  | dK kvs => obtain ⟨_, _, _, _, o, _, _, e, _⟩ := x; exact Heap.lt_size e
  | dT kvs => obtain ⟨_, _, _, _, o, _, _, e, _⟩ := x; exact Heap.lt_size e
  | set S n => obtain ⟨o, _, _, _, e, _⟩ := x; exact Heap.lt_size e
  | ins C dx fs => obtain ⟨_, _, _, e, _⟩ := x; exact Heap.lt_size e
  | own y => obtain ⟨_, e⟩ := x; exact Heap.lt_size e
  | xd fs => obtain ⟨_, ⟨_, _, _, e, _⟩, _⟩ := x; exact Heap.lt_size e
  | rng lo hi => obtain ⟨_, _, _, e⟩ := x; exact Heap.lt_size e
  | frz ob u => obtain ⟨e, _⟩ := x; exact Heap.lt_size e
  | tbl ps => exact Heap.lt_size (show h.get? a = some _ from x)
  | met f y => exact Heap.lt_size (show h.get? a = some _ from x)
  | ext φ => obtain ⟨_, ⟨_, e⟩, _⟩ := x; exact Heap.lt_size e
theorem Paired.mapP {α β : Type} {F G : α → β → Prop} : ∀ {l₁ : List α} {l₂ : List β}, Paired F l₁ l₂ → (∀ a b, F a b → G a b) → Paired G l₁ l₂
  | _, _, .nil, _ => .nil
  | _, _, .cons r t, f => .cons (f _ _ r) (Paired.mapP t f)
/-- what an object's description leans on: its own object, its own dict, the tuples -/
theorem ObjOk.stay (x : ObjOk P w H h a o) (k : ∀ b u, (b = a ∨ H b = some (.own a)) → h.get? b = some u → h'.get? b = some u)
    (ho : ∀ b, H b = some (.own a) → H' b = some (.own a)) (ht : ∀ b xs, H b = some (.tup xs) → H' b = some (.tup xs)) : ObjOk P w H' h' a o := by
  induction o with
  | lst xs => obtain ⟨z, its, n, r, e⟩ := x; exact ⟨z, its, n, r, k _ _ (.inl rfl) e⟩
  | tup xs => obtain ⟨z, its, r, ob, e, c⟩ := x; exact ⟨z, its, r, ob, k _ _ (.inl rfl) e, c⟩
  | dK kvs => obtain ⟨z, y, vs, r, ob, es, ep, e, c⟩ := x; exact ⟨z, y, vs, r, ob, es, ep, k _ _ (.inl rfl) e, c⟩
  | dT kvs =>
    obtain ⟨z, y, xs, r, ob, es, ep, e, c⟩ := x
    exact ⟨z, y, xs, Paired.mapP r fun p q z => ⟨z.1, ht _ _ z.2.1, z.2.2⟩, ob, es, ep, k _ _ (.inl rfl) e, c⟩
  | set S n => obtain ⟨ob, es, ep, t, e, c⟩ := x; exact ⟨ob, es, ep, t, k _ _ (.inl rfl) e, c⟩
  | ins C dx fs =>
    obtain ⟨d, z, ne, e, mA, ⟨od, es, ep, e2, c⟩, r⟩ := x
    exact ⟨ho _ d, z, ne, k _ _ (.inl rfl) e, mA, ⟨od, es, ep, k _ _ (.inr d) e2, c⟩, r⟩
  | own y => obtain ⟨ob, e⟩ := x; exact ⟨ob, k _ _ (.inl rfl) e⟩
  | xd fs => obtain ⟨mA, ⟨od, es, ep, e, c⟩, r⟩ := x; exact ⟨mA, ⟨od, es, ep, k _ _ (.inl rfl) e, c⟩, r⟩
  | rng lo hi => obtain ⟨t, u, v, e⟩ := x; exact ⟨t, u, v, k _ _ (.inl rfl) e⟩
  | frz ob u ih => obtain ⟨e, q⟩ := x; exact ⟨k _ _ (.inl rfl) e, ih q⟩
  | tbl ps =>
    have e : h.get? a = some { cls := .none, data := .fields ps } := x
    show h'.get? a = some { cls := .none, data := .fields ps }
    exact k a _ (.inl rfl) e
  | met f y =>
    have e : h.get? a = some (PySem.W.methodObj (.ref f) (.ref y)) := x
    show h'.get? a = some (PySem.W.methodObj (.ref f) (.ref y))
    exact k a _ (.inl rfl) e
  | ext φ => obtain ⟨p, ⟨o, e⟩, st⟩ := x; exact ⟨st _ _ p fun o q => k _ _ (.inl rfl) q, ⟨o, k _ _ (.inl rfl) e⟩, st⟩
theorem HOk.lt (x : HOk P w H h) (e : H a = some o) : a < h.objs.size := (x a o e).lt
theorem HOk.fresh (x : HOk P w H h) (e : h.objs.size ≤ a) : H a = none := by
  cases q : H a with
  | none => rfl
  | some u => exact absurd (Nat.lt_of_lt_of_le (x.lt q) e) (Nat.lt_irrefl _)
/-- every object of the heap is kept -/
theorem HOk.kept (x : HOk P w H h) (k : ∀ b u, h.get? b = some u → h'.get? b = some u) : HOk P w H h' := fun a o e =>
  (x a o e).stay (fun b u _ q => k b u q) (fun _ q => q) fun _ _ q => q
/-- a new object is laid and tracked -/
theorem HOk.laid (x : HOk P w H h) (k : ∀ b u, h.get? b = some u → h'.get? b = some u) (hp : h.objs.size ≤ a) (new : ObjOk P w (upd H a o) h' a o) : HOk P w (upd H a o) h' := fun b u e => by
  have hn := x.fresh hp
  by_cases hb : b = a
  · subst hb; rw [upd_same] at e; cases e; exact new
  · rw [upd_ne hb] at e
    exact (x b u e).stay (fun c v _ q => k c v q) (fun c q => by rw [upd_ne (ne_of_none q hn)]; exact q) fun c xs q => by rw [upd_ne (ne_of_none q hn)]; exact q
end

/-- what may be read as u: it is u, or a known u -/
def Rd (H : Hp) (a : Addr) (u : HO) : Prop := H a = some u ∨ ∃ o, H a = some (.frz o u)
theorem Rd.of {H : Hp} {a : Addr} {u : HO} (h : H a = some u) : Rd H a u := .inl h
theorem Rd.ok {P : Program} {w : World} {H : Hp} {h : Heap} {a : Addr} {u : HO} (r : Rd H a u) (x : HOk P w H h) : ObjOk P w H h a u := by
  rcases r with r | ⟨o, r⟩
  · exact x a u r
  · obtain ⟨_, q⟩ := x a _ r
    exact q
/-- what may be written -/
def Mut : Option HO → Prop
  | some (.lst _) => True
  | some (.dK _) => True
  | some (.dT _) => True
  | some (.set _ _) => True
  | some (.ins _ _ _) => True
  | some (.ext _) => True
  | _ => False
section
variable {P : Program} {w : World} {H : Hp} {h h' : Heap} {x e : Addr} {o' : HO}
/-- the object at e is changed: x itself, or the dict of the instance x -/
theorem HOk.write (ok : HOk P w H h) (mu : Mut (H x)) (he : e = x ∨ H e = some (.own x)) (k : ∀ b u, b ≠ e → h.get? b = some u → h'.get? b = some u) (heo : ∃ u, h'.get? e = some u)
    (new : ObjOk P w (upd H x o') h' x o') : HOk P w (upd H x o') h' := fun b u q => by
  have nown : ∀ c y, H c = some (.own y) → c ≠ x := fun c y r z => by subst z; rw [r] at mu; exact mu
  have ntup : ∀ c xs, H c = some (.tup xs) → c ≠ x := fun c xs r z => by subst z; rw [r] at mu; exact mu
  by_cases hb : b = x
  · subst hb; rw [upd_same] at q; cases q; exact new
  · rw [upd_ne hb] at q
    by_cases hbe : b = e
    · have q' : H b = some (.own x) := by
        rcases he with z | z
        · exact absurd (hbe.trans z) hb
        · rw [hbe]; exact z
      rw [q] at q'; cases q'
      obtain ⟨v, hv⟩ := heo
      exact ⟨v, by rw [hbe]; exact hv⟩
    · refine (ok b u q).stay (fun c v hc r => k c v ?_ r) (fun c r => by rw [upd_ne (nown c b r)]; exact r) fun c xs r => by rw [upd_ne (ntup c xs r)]; exact r
      rcases hc with rfl | hc
      · exact hbe
      · rintro rfl
        rcases he with z | z
        · exact nown c b hc z
        · rw [hc] at z; cases z; exact hb rfl
end

/-! ### kept unless tracked; of the frames at fs (the callers') the slots may change (an exception that passes writes there); of the records at ex (iterators) nothing is said -/
structure Un (fs ex : List Addr) (H H' : Hp) (h h' : Heap) : Prop where
  keep : ∀ b o, h.get? b = some o → H b = none → b ∉ fs → b ∉ ex → h'.get? b = some o
  slot : ∀ b o, h.get? b = some o → H b = none → b ∈ fs → b ∉ ex → ∃ sl, h'.get? b = some { o with slots := sl }
  free : ∀ b o, h.get? b = some o → H b = none → b ∉ ex → H' b = none
  there : ∀ b o, h.get? b = some o → b ∉ ex → ∃ o', h'.get? b = some o'
  tups : ∀ b xs, H b = some (.tup xs) → H' b = some (.tup xs)
  frzs : ∀ b o u, H b = some (.frz o u) → H' b = some (.frz o u)
  tbls : ∀ b ps, H b = some (.tbl ps) → ∃ more, H' b = some (.tbl (ps ++ more))
section
variable {fs fs' ex ex' : List Addr} {H H1 H2 : Hp} {h h1 h2 h' : Heap} {a x e : Addr} {o : HO}
theorem Un.any (u : Un fs ex H H1 h h1) {b : Addr} {ob : Obj} (q : h.get? b = some ob) (n : H b = none) (hx : b ∉ ex) : ∃ sl, h1.get? b = some { ob with slots := sl } := by
  by_cases hb : b ∈ fs
  · exact u.slot b ob q n hb hx
  · exact ⟨ob.slots, u.keep b ob q n hb hx⟩
theorem Un.trans (a : Un fs ex H H1 h h1) (b : Un fs ex H1 H2 h1 h2) : Un fs ex H H2 h h2 where
  keep := fun c ob q n hc hx => b.keep c ob (a.keep c ob q n hc hx) (a.free c ob q n hx) hc hx
  slot := fun c ob q n hc hx => by
    obtain ⟨sl, e1⟩ := a.slot c ob q n hc hx
    obtain ⟨sl', e2⟩ := b.slot c _ e1 (a.free c ob q n hx) hc hx
    exact ⟨sl', e2⟩
  free := fun c ob q n hx => by
    obtain ⟨o', e1⟩ := a.there c ob q hx
    exact b.free c o' e1 (a.free c ob q n hx) hx
  there := fun c ob q hx => by
    obtain ⟨o', e1⟩ := a.there c ob q hx
    exact b.there c o' e1 hx
  tups := fun c xs q => b.tups c xs (a.tups c xs q)
  frzs := fun c ob xs q => b.frzs c ob xs (a.frzs c ob xs q)
  tbls := fun c ps q => by
    obtain ⟨m1, e1⟩ := a.tbls c ps q
    obtain ⟨m2, e2⟩ := b.tbls c _ e1
    exact ⟨m1 ++ m2, by rw [e2, Array.append_assoc]⟩
theorem Un.kept (k : ∀ b u, h.get? b = some u → h'.get? b = some u) : Un fs ex H H h h' :=
  ⟨fun b ob q _ _ _ => k b ob q, fun b ob q _ _ _ => ⟨ob.slots, k b ob q⟩, fun _ _ _ n _ => n, fun b ob q _ => ⟨ob, k b ob q⟩, fun _ _ q => q, fun _ _ _ q => q, fun _ ps q => ⟨#[], by rw [q]; simp⟩⟩
theorem Un.refl : Un fs ex H H h h := Un.kept fun _ _ q => q
theorem Un.laid (k : ∀ b u, h.get? b = some u → h'.get? b = some u) (hp : h.objs.size ≤ a) (hn : H a = none) : Un fs ex H (upd H a o) h h' where
  keep := fun b u q _ _ _ => k b u q
  slot := fun b u q _ _ _ => ⟨u.slots, k b u q⟩
  free := fun b u q n _ => by rw [upd_ne (Nat.ne_of_lt (Nat.lt_of_lt_of_le (Heap.lt_size q) hp))]; exact n
  there := fun b u q _ => ⟨u, k b u q⟩
  tups := fun b xs q => by rw [upd_ne (ne_of_none q hn)]; exact q
  frzs := fun b u xs q => by rw [upd_ne (ne_of_none q hn)]; exact q
  tbls := fun b ps q => ⟨#[], by rw [upd_ne (ne_of_none q hn), q]; simp⟩
theorem Un.write (mu : Mut (H x)) (he : e = x ∨ H e = some (.own x)) (k : ∀ b u, b ≠ e → h.get? b = some u → h'.get? b = some u) (heo : ∃ u, h'.get? e = some u) : Un fs ex H (upd H x o) h h' := by
  have hx : ∀ b, H b = none → b ≠ x := fun b n z => by subst z; rw [n] at mu; exact mu
  have hb : ∀ b, H b = none → b ≠ e := fun b n z => by
    subst z
    rcases he with r | r
    · exact hx b n r
    · rw [n] at r; cases r
  have hm : ∀ b u, H b = some u → ¬ Mut (some u) → b ≠ x := fun b u q nm z => by subst z; rw [q] at mu; exact nm mu
  refine ⟨fun b u q n _ _ => k b u (hb b n) q, fun b u q n _ _ => ⟨u.slots, k b u (hb b n) q⟩, fun b u q n _ => by rw [upd_ne (hx b n)]; exact n, fun b u q _ => ?_,
    fun b xs q => by rw [upd_ne (hm b _ q fun z => z)]; exact q, fun b u xs q => by rw [upd_ne (hm b _ q fun z => z)]; exact q, fun b ps q => ⟨#[], by rw [upd_ne (hm b _ q fun z => z), q]; simp⟩⟩
  by_cases hbe : b = e
  · subst hbe; exact heo
  · exact ⟨u, k b u hbe q⟩
theorem Un.mono (u : Un fs ex H H1 h h1) (hs : ∀ b ∈ fs, b ∈ fs') (hx : ∀ b ∈ ex, b ∈ ex') : Un fs' ex' H H1 h h1 :=
  ⟨fun b ob q n hb he => u.keep b ob q n (fun z => hb (hs b z)) fun z => he (hx b z), fun _ _ q n _ he => u.any q n fun z => he (hx _ z), fun b ob q n he => u.free b ob q n fun z => he (hx b z), fun b ob q he => u.there b ob q fun z => he (hx b z), u.tups, u.frzs, u.tbls⟩
end

/-! ### the heap without what is tracked -/
def trk (h : Heap) (H : Hp) : List Addr := (List.range h.objs.size).filter fun a => (H a).isSome
/-! ### OpenK's ledger, filled with every new object but one -/
def allNews (g h : Heap) (L : Addr) : List (Addr × Obj) := (List.range h.objs.size).filterMap fun a => if a = L ∨ (g.get? a).isSome = true then none else (h.get? a).map fun o => (a, o)
def rest (g h : Heap) (L d : Addr) : List (Addr × Obj) := (allNews g h L).filter fun p => decide (p.1 ≠ d)
end L2

namespace L2
open PySem PySem.Spec PyProof.Rows

/-- the module's facts, over the base: the heap at the law's entry without what is tracked there -/
structure Mod (K : PySem.W.Frag) (mg : Str → Option Value) (base : Heap) : Prop where
  kin : K.In base
  glob : base.Ns mainGlobals mg
  blt : ∃ mb, base.Ns builtinsNs mb ∧ ∀ x : Str, x ≠ "__name__" → mb x = bootBuiltins x
  nolimit : base.NoLimit

/-- the context: a def's body (or a comprehension's block) running. base: fixed through the whole law; s₀, H₀: the entry; outer: the frames whose slots others may change (a def's callers); stack: all frames that run;
   ex: iterators that were made ahead of the entry and are walked here (a comprehension's); fn: the names whose cells were made at the entry (a def: all; a comprehension's block: its own); calm: not within an except suite; pn: pins that every state bears; xe: what is wanted of an exception that leaves the code -/
structure Cx where
  prog : Program
  w : World
  K : PySem.W.Frag
  mg : Str → Option Value
  base : Heap
  A : Around
  N : List Str
  s₀ : Shared
  H₀ : Hp
  env : Env
  outer : List Env
  stack : List Env
  ex : List Addr
  fn : Str → Bool
  calm : Bool
  pn : List (Addr × Obj)
  xe : Value → Shared → Prop
/-- the callers' frames -/
def frs (l : List Env) : List Addr := l.filterMap (·.frame)
abbrev Cx.fs (X : Cx) : List Addr := frs X.outer

def Vis (sc : Scope) (x : Str) : Prop := sc.names.lookup x = some .local ∨ sc.names.lookup x = some .cell ∨ sc.names.lookup x = some .free
def Loc (sc : Scope) (x : Str) : Prop := sc.names.lookup x = some .local ∨ sc.names.lookup x = some .cell
def Look (env : Env) (h : Heap) (m : Str → Option Value) (x : Str) (u : Value) : Prop :=
  (env.kindOf x = some .local ∧ m x = some u) ∨ ((env.kindOf x = some .cell ∨ env.kindOf x = some .free) ∧ ∃ c, env.cells.lookup x = some c ∧ h.IsCell c (some u))

structure Cx.Ok (X : Cx) : Prop where
  mod : Mod X.K X.mg X.base
  kind : X.env.scope.kind = .function
  glob : X.env.globals = mainGlobals
  blt : X.env.builtins = builtinsNs
  above : X.s₀.heap.objs.size ≤ X.env.locals
  inj : ∀ x y c, X.env.cells.lookup x = some c → X.env.cells.lookup y = some c → x = y
  has : ∀ x, (X.env.kindOf x = some .cell ∨ X.env.kindOf x = some .free) → ∃ c, X.env.cells.lookup x = some c
  cab : ∀ x c, X.fn x = true → X.env.cells.lookup x = some c → X.s₀.heap.objs.size ≤ c
  hd : X.calm = true → X.A.handled = none
  frames : X.A.frames = some X.stack
  stk : X.stack = X.outer ∨ (X.stack = X.env :: X.outer ∧ X.env.frame = some X.env.locals)
  exf : ∀ b ∈ X.ex, b ≠ X.env.locals ∧ ∀ x c, X.env.cells.lookup x = some c → c ≠ b
  bs : ∀ b o, X.base.get? b = some o → X.s₀.heap.get? b = some o ∧ X.H₀ b = none
  bsz : X.base.objs.size ≤ X.s₀.heap.objs.size
  noex : ∀ b o, X.base.get? b = some o → b ∉ X.ex
  exfs : ∀ b ∈ X.ex, b ∉ X.fs
  funs : X.s₀.heap.FunFrames X.base X.outer
  frf : ∀ b ∈ X.fs, X.H₀ b = none

structure Inv (X : Cx) (pins : List (Addr × Obj)) (σ : List (Option V)) (H : Hp) (s : Shared) : Prop where
  ok : X.Ok
  os : s.os = X.s₀.os
  bare : AllBare s.gens
  base : Un X.fs X.ex X.H₀ H X.s₀.heap s.heap
  loc : ∃ m, s.heap.Ns X.env.locals m ∧ ∀ (i : Nat) (x : Str) (v : V), X.N[i]? = some x → σ[i]? = some (some v) → Vis X.env.scope x → ∃ u, RelV v u ∧ Look X.env s.heap m x u
  cell : ∀ x c, X.env.cells.lookup x = some c → ∃ v, s.heap.IsCell c v
  free : H X.env.locals = none
  freeC : ∀ x c, X.env.cells.lookup x = some c → H c = none
  pin : ∀ p ∈ X.pn ++ pins, s.heap.get? p.1 = some p.2 ∧ H p.1 = none ∧ p.1 ≠ X.env.locals ∧ p.1 ∉ X.fs ∧ ∀ v, p.2.data ≠ .cell v
  hok : HOk X.prog X.w H s.heap
  len : σ.length = X.N.length

section
variable {X : Cx} {pins : List (Addr × Obj)} {σ : List (Option V)} {H H' : Hp} {s : Shared} {h' : Heap}

theorem Cx.Ok.nofr (ok : X.Ok) {b : Addr} {o : Obj} (e : X.base.get? b = some o) : b ∉ X.fs := fun hb => by
  have := (ok.funs.mem hb).1
  rw [e] at this; cases this
theorem Inv.bs (I : Inv X pins σ H s) : ∀ b o, X.base.get? b = some o → s.heap.get? b = some o ∧ H b = none := fun b o e =>
  ⟨I.base.keep b o (I.ok.bs b o e).1 (I.ok.bs b o e).2 (I.ok.nofr e) (I.ok.noex b o e), I.base.free b o (I.ok.bs b o e).1 (I.ok.bs b o e).2 (I.ok.noex b o e)⟩
theorem Inv.bk (I : Inv X pins σ H s) : ∀ b o, X.base.get? b = some o → s.heap.get? b = some o := fun b o e => (I.bs b o e).1
theorem Inv.mod (I : Inv X pins σ H s) : Mod X.K X.mg X.base := I.ok.mod
theorem Inv.kIn (I : Inv X pins σ H s) : X.K.In s.heap := I.ok.mod.kin.keeps I.bk
theorem Inv.nolimit (I : Inv X pins σ H s) : s.heap.NoLimit := I.ok.mod.nolimit.keeps I.bk
/-- the frame over the base: for OpenK's rules (K.In X.base is I.mod.kin) -/
theorem Inv.fr (I : Inv X pins σ H s) : ∃ m, Fr X.base X.env.locals s.heap m :=
  let ⟨m, hn, _⟩ := I.loc
  ⟨m, hn, I.bk, Nat.le_trans I.ok.bsz I.ok.above⟩
theorem Inv.lt (I : Inv X pins σ H s) : X.env.locals < s.heap.objs.size := let ⟨_, hn, _⟩ := I.loc; hn.lt
theorem Inv.sz (I : Inv X pins σ H s) : X.s₀.heap.objs.size ≤ s.heap.objs.size := Nat.le_trans I.ok.above (Nat.le_of_lt I.lt)
theorem Inv.nofs (I : Inv X pins σ H s) {a : Addr} (h : s.heap.objs.size ≤ a) : a ∉ X.fs := fun hb => by
  obtain ⟨_, o, ho, _⟩ := I.ok.funs.mem hb
  exact absurd (Nat.lt_of_lt_of_le (Heap.lt_size ho) (Nat.le_trans I.sz h)) (Nat.lt_irrefl _)
theorem Inv.cne (I : Inv X pins σ H s) : ∀ x c, X.env.cells.lookup x = some c → c ≠ X.env.locals := fun x c e z => by
  obtain ⟨v, o, ho, hd⟩ := I.cell x c e
  obtain ⟨m, ⟨o', es, ep, ho', hd', _⟩, _⟩ := I.loc
  rw [z, ho'] at ho; cases ho; rw [hd'] at hd; cases hd
theorem Inv.funs (I : Inv X pins σ H s) : s.heap.FunFrames X.base X.outer := by
  have all : ∀ (l : List Env), (∀ b ∈ frs l, b ∈ X.fs) → X.s₀.heap.FunFrames X.base l → s.heap.FunFrames X.base l := by
    intro l
    induction l with
    | nil => intro _ _; trivial
    | cons env r ih =>
      intro hs hl
      obtain ⟨hk, ⟨L, o, hf, hn, ho, hd⟩, hr⟩ := hl
      have hL : L ∈ X.fs := hs L (by unfold frs; rw [List.filterMap_cons, hf]; exact List.mem_cons_self)
      obtain ⟨sl, e⟩ := I.base.slot L o ho (I.ok.frf L hL) hL fun z => I.ok.exfs L z hL
      exact ⟨hk, ⟨L, _, hf, hn, e, hd⟩, ih (fun b hb => hs b (by unfold frs; rw [List.filterMap_cons, hf]; exact List.mem_cons_of_mem _ hb)) hr⟩
  exact all X.outer (fun _ hb => hb) I.ok.funs

/-- the frames that run, for a call -/
theorem Inv.stack (I : Inv X pins σ H s) : s.heap.FunFrames X.base X.stack := by
  rcases I.ok.stk with e | ⟨e, hf⟩
  · rw [e]; exact I.funs
  · rw [e]
    obtain ⟨m, hn, _⟩ := I.loc
    refine .cons (by rw [I.ok.kind]; decide) hf hn ?_ I.funs
    exact Heap.get?_none_of_le (Nat.le_trans I.ok.bsz I.ok.above)
theorem Inv.stkSub (I : Inv X pins σ H s) : ∀ b ∈ frs X.stack, b ∈ X.env.locals :: X.fs := fun b hb => by
  rcases I.ok.stk with e | ⟨e, hf⟩
  · rw [e] at hb; exact List.mem_cons_of_mem _ hb
  · rw [e] at hb
    unfold frs at hb
    rw [List.filterMap_cons, hf] at hb
    exact hb
theorem Inv.stkFree (I : Inv X pins σ H s) : ∀ b ∈ frs X.stack, H b = none := fun b hb => by
  rcases List.mem_cons.mp (I.stkSub b hb) with e | hb
  · rw [e]; exact I.free
  · obtain ⟨_, o, ho, _⟩ := I.ok.funs.mem hb
    exact I.base.free b o ho (I.ok.frf b hb) fun z => I.ok.exfs b z hb

/-- THE STEP: the untracked objects but the frame and the records at ch are kept (the callers' frames up to slots), the frame's map is kept, the new abstract heap is held -/
theorem Inv.step {g' : Array GenState} {t' : Nat} {d' : Drawn} {ch : List Addr} (I : Inv X pins σ H s)
    (hch : ∀ b ∈ ch, (b ∈ X.ex ∨ X.s₀.heap.objs.size ≤ b) ∧ b ≠ X.env.locals ∧ (∀ x c, X.env.cells.lookup x = some c → c ≠ b) ∧ ∀ p ∈ X.pn ++ pins, p.1 ≠ b)
    (keep : ∀ b o, b ≠ X.env.locals → b ∉ X.fs → b ∉ ch → s.heap.get? b = some o → H b = none → h'.get? b = some o)
    (slot : ∀ b o, b ≠ X.env.locals → b ∈ X.fs → b ∉ ch → s.heap.get? b = some o → H b = none → ∃ sl, h'.get? b = some { o with slots := sl }) (free : ∀ b o, b ∉ ch → s.heap.get? b = some o → H b = none → H' b = none)
    (there : ∀ b o, b ∉ ch → s.heap.get? b = some o → ∃ o', h'.get? b = some o')
    (tups : ∀ b xs, H b = some (.tup xs) → H' b = some (.tup xs)) (frzs : ∀ b o u, H b = some (.frz o u) → H' b = some (.frz o u)) (tbls : ∀ b ps, H b = some (.tbl ps) → ∃ more, H' b = some (.tbl (ps ++ more)))
    (ns : ∀ m, s.heap.Ns X.env.locals m → h'.Ns X.env.locals m) (hok : HOk X.prog X.w H' h') (hg : AllBare g') :
    Inv X pins σ H' { s with heap := h', gens := g', drawn := d', toks := t' } := by
  have neL : ∀ b o, X.s₀.heap.get? b = some o → b ≠ X.env.locals := fun b o e => Nat.ne_of_lt (Nat.lt_of_lt_of_le (Heap.lt_size e) I.ok.above)
  have neC : ∀ b o, X.s₀.heap.get? b = some o → b ∉ X.ex → b ∉ ch := fun b o e hx hb => by
    rcases (hch b hb).1 with z | z
    · exact hx z
    · exact absurd (Nat.lt_of_lt_of_le (Heap.lt_size e) z) (Nat.lt_irrefl _)
  have cellK : ∀ x c, X.env.cells.lookup x = some c → ∀ v, s.heap.IsCell c v → h'.IsCell c v := fun x c e v ⟨o, ho, hd⟩ => by
    have nch : c ∉ ch := fun z => (hch c z).2.2.1 x c e rfl
    by_cases hc : c ∈ X.fs
    · obtain ⟨sl, q⟩ := slot c o (I.cne x c e) hc nch ho (I.freeC x c e)
      exact ⟨_, q, hd⟩
    · exact ⟨o, keep c o (I.cne x c e) hc nch ho (I.freeC x c e), hd⟩
  refine ⟨I.ok, I.os, hg, ⟨fun b o e n hb hx => ?_, fun b o e n hb hx => ?_, fun b o e n hx => ?_, fun b o e hx => ?_, fun b xs e => tups b xs (I.base.tups b xs e), fun b o xs e => frzs b o xs (I.base.frzs b o xs e), fun b ps e => ?_⟩, ?_, fun x c e => ?_, ?_, fun x c e => ?_, fun p hp => ?_, hok, I.len⟩
  · exact keep b o (neL b o e) hb (neC b o e hx) (I.base.keep b o e n hb hx) (I.base.free b o e n hx)
  · obtain ⟨sl, e1⟩ := I.base.slot b o e n hb hx
    obtain ⟨sl', e2⟩ := slot b _ (neL b o e) hb (neC b o e hx) e1 (I.base.free b o e n hx)
    exact ⟨sl', e2⟩
  · obtain ⟨o', e1⟩ := I.base.there b o e hx
    exact free b o' (neC b o e hx) e1 (I.base.free b o e n hx)
  · obtain ⟨o', e1⟩ := I.base.there b o e hx
    exact there b o' (neC b o e hx) e1
  · obtain ⟨m1, e1⟩ := I.base.tbls b ps e
    obtain ⟨m2, e2⟩ := tbls b _ e1
    exact ⟨m1 ++ m2, by rw [e2, Array.append_assoc]⟩
  · obtain ⟨m, hn, hl⟩ := I.loc
    refine ⟨m, ns m hn, fun i x v e1 e2 e3 => ?_⟩
    obtain ⟨u, r, l⟩ := hl i x v e1 e2 e3
    refine ⟨u, r, ?_⟩
    rcases l with l | ⟨k, c, e, z⟩
    · exact .inl l
    · exact .inr ⟨k, c, e, cellK x c e _ z⟩
  · obtain ⟨v, z⟩ := I.cell x c e
    exact ⟨v, cellK x c e v z⟩
  · obtain ⟨m, ⟨o, _, _, ho, _⟩, _⟩ := I.loc
    exact free _ o (fun z => (hch _ z).2.1 rfl) ho I.free
  · obtain ⟨v, o, ho, hd⟩ := I.cell x c e
    exact free c o (fun z => (hch c z).2.2.1 x c e rfl) ho (I.freeC x c e)
  · obtain ⟨e, n, ne, nf, d⟩ := I.pin p hp
    have nch : p.1 ∉ ch := fun z => (hch p.1 z).2.2.2 p hp rfl
    exact ⟨keep p.1 p.2 ne nf nch e n, free p.1 p.2 nch e n, ne, nf, d⟩
/-- .. where the frame's own object is kept too -/
theorem Inv.un {t' : Nat} (I : Inv X pins σ H s) (u : Un X.fs [] H H' s.heap h') (hok : HOk X.prog X.w H' h') : Inv X pins σ H' { s with heap := h', toks := t' } := by
  obtain ⟨m, ⟨o, es, ep, ho, r⟩, _⟩ := id I.loc
  obtain ⟨sl, hL⟩ := u.any ho I.free (by simp)
  exact I.step (g' := s.gens) (d' := s.drawn) (ch := []) (fun _ z => nomatch z) (fun b o _ hb _ e n => u.keep b o e n hb (by simp)) (fun b o _ hb _ e n => u.slot b o e n hb (by simp)) (fun b o _ e n => u.free b o e n (by simp)) (fun b o _ e => u.there b o e (by simp)) u.tups u.frzs u.tbls (fun m' hm => by
    obtain ⟨o', es', ep', ho', r'⟩ := hm
    rw [ho] at ho'; cases ho'
    exact ⟨_, es', ep', hL, r'⟩) hok I.bare
/-- behind a call (or a comprehension's block): the slots of this frame may have changed too, the records at ch may have turned -/
theorem Inv.call {g' : Array GenState} {t' : Nat} {d' : Drawn} {ch : List Addr} (I : Inv X pins σ H s) (u : Un (frs X.stack) ch H H' s.heap h') (hok : HOk X.prog X.w H' h') (hg : AllBare g')
    (hch : ∀ b ∈ ch, (b ∈ X.ex ∨ X.s₀.heap.objs.size ≤ b) ∧ b ≠ X.env.locals ∧ (∀ x c, X.env.cells.lookup x = some c → c ≠ b) ∧ ∀ p ∈ X.pn ++ pins, p.1 ≠ b) :
    Inv X pins σ H' { s with heap := h', gens := g', drawn := d', toks := t' } := by
  obtain ⟨m, ⟨o, es, ep, ho, r⟩, _⟩ := id I.loc
  obtain ⟨sl, hL⟩ := u.any ho I.free fun z => (hch _ z).2.1 rfl
  exact I.step (ch := ch) hch (fun b o hL hb hc e n => u.keep b o e n (fun z => (List.mem_cons.mp (I.stkSub b z)).elim hL hb) hc) (fun b o _ _ hc e n => u.any e n hc) (fun b o hc e n => u.free b o e n hc) (fun b o hc e => u.there b o e hc) u.tups u.frzs u.tbls (fun m' hm => by
    obtain ⟨o', es', ep', ho', r'⟩ := hm
    rw [ho] at ho'; cases ho'
    exact ⟨_, es', ep', hL, r'⟩) hok hg
/-- an untracked record of ours (an iterator) has turned -/
theorem Inv.turned {t' : Nat} {it : Addr} (I : Inv X pins σ H s) (k : ∀ b o, b ≠ it → s.heap.get? b = some o → h'.get? b = some o) (hn : H it = none) (hL : it ≠ X.env.locals)
    (h1 : it ∈ X.ex ∨ X.s₀.heap.objs.size ≤ it) (h2 : ∀ x c, X.env.cells.lookup x = some c → c ≠ it) (h3 : ∀ p ∈ X.pn ++ pins, p.1 ≠ it) : Inv X pins σ H { s with heap := h', toks := t' } := by
  have nit : ∀ b u, H b = some u → b ≠ it := fun b u e z => by rw [z, hn] at e; cases e
  refine I.step (g' := s.gens) (d' := s.drawn) (ch := [it]) (fun b hb => ?_) (fun b o _ _ hc e _ => k b o (fun z => hc (by simp [z])) e) (fun b o _ _ hc e _ => ⟨o.slots, k b o (fun z => hc (by simp [z])) e⟩) (fun _ _ _ _ n => n)
    (fun b o hc e => ⟨o, k b o (fun z => hc (by simp [z])) e⟩) (fun _ _ e => e) (fun _ _ _ e => e) (fun b ps e => ⟨#[], by rw [e]; simp⟩) (fun m hm => ?_) (fun b u e => ?_) I.bare
  · have e : b = it := by simpa using hb
    subst e
    exact ⟨h1, hL, h2, h3⟩
  · obtain ⟨o, es, ep, ho, r⟩ := hm
    exact ⟨o, es, ep, k _ o (Ne.symm hL) ho, r⟩
  · refine (I.hok b u e).stay (fun c v hc q => k c v ?_ q) (fun _ q => q) fun _ _ q => q
    rcases hc with z | z
    · rw [z]; exact nit b u e
    · exact nit c _ z
theorem Inv.tok (I : Inv X pins σ H s) (t : Nat) : Inv X pins σ H { s with toks := t } := I.un (h' := s.heap) (t' := t) Un.refl I.hok
/-- all objects kept -/
theorem Inv.kept {t' : Nat} (I : Inv X pins σ H s) (k : ∀ b u, s.heap.get? b = some u → h'.get? b = some u) : Inv X pins σ H { s with heap := h', toks := t' } := I.un (Un.kept k) (I.hok.kept k)
/-- a new object laid and tracked -/
theorem Inv.laid {a : Addr} {o : HO} {t' : Nat} (I : Inv X pins σ H s) (k : ∀ b u, s.heap.get? b = some u → h'.get? b = some u) (hp : s.heap.objs.size ≤ a) (new : ObjOk X.prog X.w (upd H a o) h' a o) :
    Inv X pins σ (upd H a o) { s with heap := h', toks := t' } := I.un (Un.laid k hp (I.hok.fresh hp)) (I.hok.laid k hp new)
/-- an object written -/
theorem Inv.write {x e : Addr} {o : HO} {t' : Nat} (I : Inv X pins σ H s) (mu : Mut (H x)) (he : e = x ∨ H e = some (.own x)) (k : ∀ b u, b ≠ e → s.heap.get? b = some u → h'.get? b = some u) (heo : ∃ u, h'.get? e = some u)
    (new : ObjOk X.prog X.w (upd H x o) h' x o) : Inv X pins σ (upd H x o) { s with heap := h', toks := t' } := I.un (Un.write mu he k heo) (I.hok.write mu he k heo new)
theorem Inv.pins_of {pins' : List (Addr × Obj)} (I : Inv X pins σ H s) (h : ∀ p ∈ pins', s.heap.get? p.1 = some p.2 ∧ H p.1 = none ∧ p.1 ≠ X.env.locals ∧ p.1 ∉ X.fs ∧ ∀ v, p.2.data ≠ .cell v) : Inv X pins' σ H s :=
  ⟨I.ok, I.os, I.bare, I.base, I.loc, I.cell, I.free, I.freeC, fun p hp => (List.mem_append.mp hp).elim (fun z => I.pin p (List.mem_append_left _ z)) (h p), I.hok, I.len⟩

theorem nodup_ix {N : List Str} (hN : N.Nodup) {i j : Nat} {x : Str} (a : N[i]? = some x) (b : N[j]? = some x) : i = j := by
  obtain ⟨h1, e1⟩ := List.getElem?_eq_some_iff.mp a
  obtain ⟨h2, e2⟩ := List.getElem?_eq_some_iff.mp b
  exact (List.getElem_inj hN).mp (e1.trans e2.symm)

/-- a name is stored; what changed -/
theorem store_ok2 {M : Model} {A : Around} {E : Value → Shared → Prop} {i : Nat} {x : Str} {v : V} {u : Value} {Q : Unit → Shared → Prop} (I : Inv X pins σ H s) (hN : X.N.Nodup) (hi : X.N[i]? = some x) (hx : Loc X.env.scope x) (r : RelV v u)
    (h : ∀ s', Inv X pins (σ.set i (some v)) H s' → (∃ a, Heap.SameBut a s.heap s'.heap ∧ (a = X.env.locals ∨ X.env.cells.lookup x = some a)) → Q () s') (hf : X.fn x = true ∨ X.env.scope.names.lookup x = some .local := by first | exact .inl rfl | exact .inr rfl | assumption) : wpAny M A (storeName X.env x u) Q E s := by
  obtain ⟨m, hn, hl⟩ := id I.loc
  have hcls : (X.env.scope.kind == .class || (X.env.scope.kind == .module && X.env.locals != X.env.globals)) = false := by rw [I.ok.kind]; rfl
  have hiσ : i < σ.length := by rw [I.len]; exact (List.getElem?_eq_some_iff.mp hi).1
  have cne := I.cne
  have tracked : ∀ {a : Addr} {h' : Heap}, (∃ o, s.heap.get? a = some o ∧ H a = none) → Heap.SameBut a s.heap h' → HOk X.prog X.w H h' := fun {a h'} ha hs b ob e => by
    obtain ⟨_, _, hfree⟩ := ha
    refine (I.hok b ob e).stay (fun c w' hc q => (hs.2 c ?_).trans q) (fun _ q => q) fun _ _ q => q
    rintro rfl
    rcases hc with rfl | hc
    · rw [hfree] at e; cases e
    · rw [hfree] at hc; cases hc
  rcases hx with hk | hk
  · refine wpAny_storeName_local hk hn (fun h' hn' hs => ?_) hcls
    obtain ⟨oL, _, _, hoL, _⟩ := id hn
    refine h _ ⟨I.ok, I.os, I.bare, ⟨fun b o e n hb hx => ?_, fun b o e n hb hx => ?_, I.base.free, fun b o e hx => ?_, I.base.tups, I.base.frzs, I.base.tbls⟩, ⟨_, hn', fun j y v' e1 e2 e3 => ?_⟩, fun y c e => ?_, I.free, I.freeC, fun p hp => ?_, tracked ⟨oL, hoL, I.free⟩ hs, by simpa using I.len⟩ ⟨_, hs, .inl rfl⟩
    · exact (hs.2 b (Nat.ne_of_lt (Nat.lt_of_lt_of_le (Heap.lt_size e) I.ok.above))).trans (I.base.keep b o e n hb hx)
    · obtain ⟨sl, e1⟩ := I.base.slot b o e n hb hx
      exact ⟨sl, (hs.2 b (Nat.ne_of_lt (Nat.lt_of_lt_of_le (Heap.lt_size e) I.ok.above))).trans e1⟩
    · obtain ⟨o', e1⟩ := I.base.there b o e hx
      exact ⟨o', (hs.2 b (Nat.ne_of_lt (Nat.lt_of_lt_of_le (Heap.lt_size e) I.ok.above))).trans e1⟩
    · by_cases hj : j = i
      · subst hj
        rw [hi] at e1; cases e1
        rw [List.getElem?_set_self hiσ] at e2
        cases e2
        exact ⟨u, r, .inl ⟨hk, by simp⟩⟩
      · rw [List.getElem?_set_ne (Ne.symm hj)] at e2
        obtain ⟨u', r', q⟩ := hl j y v' e1 e2 e3
        refine ⟨u', r', ?_⟩
        rcases q with ⟨k, e⟩ | ⟨k, c, e, z⟩
        · refine .inl ⟨k, ?_⟩
          have : y ≠ x := fun e => hj (nodup_ix hN e1 (e ▸ hi))
          simp [this, e]
        · exact .inr ⟨k, c, e, z.sameBut hs (cne y c e)⟩
    · obtain ⟨w', z⟩ := I.cell y c e
      exact ⟨w', z.sameBut hs (cne y c e)⟩
    · obtain ⟨e, n, ne, nf, d⟩ := I.pin p hp
      exact ⟨(hs.2 p.1 ne).trans e, n, ne, nf, d⟩
  · have hfn : X.fn x = true := by
      rcases hf with z | z
      · exact z
      · rw [z] at hk; cases hk
    obtain ⟨c, hc⟩ := I.ok.has x (.inl hk)
    obtain ⟨w', z⟩ := I.cell x c hc
    refine wpAny_storeName_cell I.ok.kind hk hc z (fun h' hc' hs => ?_)
    obtain ⟨oc, hoc, hocd⟩ := id z
    refine h { s with heap := h' } ⟨I.ok, I.os, I.bare, ⟨fun b o e n hb hx => ?_, fun b o e n hb hx => ?_, I.base.free, fun b o e hx => ?_, I.base.tups, I.base.frzs, I.base.tbls⟩, ⟨m, hn.sameBut hs (Ne.symm (cne x c hc)), fun j y v' e1 e2 e3 => ?_⟩, fun y c' e => ?_, I.free, I.freeC, fun p hp => ?_, tracked ⟨oc, hoc, I.freeC x c hc⟩ hs, by simpa using I.len⟩ ⟨c, hs, .inr hc⟩
    · exact (hs.2 b (Nat.ne_of_lt (Nat.lt_of_lt_of_le (Heap.lt_size e) (I.ok.cab x c hfn hc)))).trans (I.base.keep b o e n hb hx)
    · obtain ⟨sl, e1⟩ := I.base.slot b o e n hb hx
      exact ⟨sl, (hs.2 b (Nat.ne_of_lt (Nat.lt_of_lt_of_le (Heap.lt_size e) (I.ok.cab x c hfn hc)))).trans e1⟩
    · obtain ⟨o', e1⟩ := I.base.there b o e hx
      exact ⟨o', (hs.2 b (Nat.ne_of_lt (Nat.lt_of_lt_of_le (Heap.lt_size e) (I.ok.cab x c hfn hc)))).trans e1⟩
    · by_cases hj : j = i
      · subst hj
        rw [hi] at e1; cases e1
        rw [List.getElem?_set_self hiσ] at e2
        cases e2
        exact ⟨u, r, .inr ⟨.inl hk, c, hc, hc'⟩⟩
      · rw [List.getElem?_set_ne (Ne.symm hj)] at e2
        obtain ⟨u', r', q⟩ := hl j y v' e1 e2 e3
        refine ⟨u', r', ?_⟩
        rcases q with q | ⟨k, c', e, z'⟩
        · exact .inl q
        · refine .inr ⟨k, c', e, z'.sameBut hs ?_⟩
          rintro rfl
          exact hj (nodup_ix hN e1 (I.ok.inj _ _ _ e hc ▸ hi))
    · by_cases hcc : c' = c
      · subst hcc; exact ⟨_, hc'⟩
      · obtain ⟨w2, z2⟩ := I.cell y c' e
        exact ⟨w2, z2.sameBut hs hcc⟩
    · obtain ⟨e, n, ne, nf, d⟩ := I.pin p hp
      refine ⟨(hs.2 p.1 ?_).trans e, n, ne, nf, d⟩
      intro q
      rw [q, hoc] at e
      have q' : oc = p.2 := Option.some.inj e
      exact d w' (by rw [← q']; exact hocd)
theorem store_ok {M : Model} {A : Around} {E : Value → Shared → Prop} {i : Nat} {x : Str} {v : V} {u : Value} {Q : Unit → Shared → Prop} (I : Inv X pins σ H s) (hN : X.N.Nodup) (hi : X.N[i]? = some x) (hx : Loc X.env.scope x) (r : RelV v u)
    (h : ∀ s', Inv X pins (σ.set i (some v)) H s' → Q () s') (hf : X.fn x = true ∨ X.env.scope.names.lookup x = some .local := by first | exact .inl rfl | exact .inr rfl | assumption) : wpAny M A (storeName X.env x u) Q E s :=
  store_ok2 I hN hi hx r (fun s' I' _ => h s' I') hf
/-- behind a call or a block, the state as it is -/
theorem Inv.call' {s' : Shared} {ch : List Addr} (I : Inv X pins σ H s) (ho : s'.os = s.os) (u : Un (frs X.stack) ch H H' s.heap s'.heap) (hok : HOk X.prog X.w H' s'.heap) (hg : AllBare s'.gens)
    (hch : ∀ b ∈ ch, (b ∈ X.ex ∨ X.s₀.heap.objs.size ≤ b) ∧ b ≠ X.env.locals ∧ (∀ x c, X.env.cells.lookup x = some c → c ≠ b) ∧ ∀ p ∈ X.pn ++ pins, p.1 ≠ b) : Inv X pins σ H' s' := by
  obtain ⟨h', g', d', t', o'⟩ := s'
  have e : o' = s.os := ho
  subst e
  exact I.call (g' := g') (t' := t') (d' := d') u hok hg hch
end

/-! ### the judgements -/
/-- an exception: its class, its own dict's address (where it has one), the abstract heap behind it -/
abbrev XK := Value → Option Addr → Hp → Prop
abbrev St := List (Option V)
abbrev VK := V → Hp → Prop
/-- an expression's reading; a test's; an argument list's -/
abbrev TE := St → Hp → VK → Prop
abbrev TT := St → Hp → (Bool → Hp → Prop) → Prop
abbrev TA := St → Hp → (List V → Hp → Prop) → Prop
/-- what is wanted behind a statement -/
structure Ends where
  nx : St → Hp → Prop
  rt : VK
  bk : St → Hp → Prop := fun _ _ => False
  ct : St → Hp → Prop := fun _ _ => False
abbrev TS := Ends → St → Hp → Prop

def EP (X : Cx) (pins : List (Addr × Obj)) (σ : St) (Q : VK) (u : Value) (s' : Shared) : Prop := ∃ v H', Inv X pins σ H' s' ∧ RelV v u ∧ Q v H'
def TP (X : Cx) (pins : List (Addr × Obj)) (σ : St) (Q : Bool → Hp → Prop) (b : Bool) (s' : Shared) : Prop := ∃ H', Inv X pins σ H' s' ∧ Q b H'
def AP (X : Cx) (pins : List (Addr × Obj)) (σ : St) (Q : List V → Hp → Prop) (us : List Value) (s' : Shared) : Prop := ∃ vs H', Inv X pins σ H' s' ∧ Vals vs us ∧ Q vs H'
def SP (X : Cx) (pins : List (Addr × Obj)) (D : Ends) (f : Flow) (s' : Shared) : Prop :=
  match f with
  | .next => ∃ σ' H', Inv X pins σ' H' s' ∧ D.nx σ' H'
  | .brk => ∃ σ' H', Inv X pins σ' H' s' ∧ D.bk σ' H'
  | .cont => ∃ σ' H', Inv X pins σ' H' s' ∧ D.ct σ' H'
  | .ret u => ∃ v σ' H', Inv X pins σ' H' s' ∧ RelV v u ∧ D.rt v H'

def PE (X : Cx) (e : Expr) (t : TE) : Prop :=
  ∀ (pins : List (Addr × Obj)) (s : Shared) (σ : St) (H : Hp) (Q : VK), Inv X pins σ H s → t σ H Q → wpAny (model X.prog X.w) X.A (eval e X.env) (EP X pins σ Q) X.xe s
def PT (X : Cx) (e : Expr) (t : TT) : Prop :=
  ∀ (pins : List (Addr × Obj)) (s : Shared) (σ : St) (H : Hp) (Q : Bool → Hp → Prop), Inv X pins σ H s → t σ H Q → wpAny (model X.prog X.w) X.A (isTrue e X.env (eval e X.env)) (TP X pins σ Q) X.xe s
/-- a test whatever its 'whole' is (and, or) -/
def PW (X : Cx) (e : Expr) (t : TT) : Prop :=
  ∀ (whole : Sem Value) (pins : List (Addr × Obj)) (s : Shared) (σ : St) (H : Hp) (Q : Bool → Hp → Prop), Inv X pins σ H s → t σ H Q → wpAny (model X.prog X.w) X.A (isTrue e X.env whole) (TP X pins σ Q) X.xe s
theorem PW.pt {X : Cx} {e : Expr} {t : TT} (h : PW X e t) : PT X e t := h _
/-- an argument list (no star), from the left -/
def PA (X : Cx) (es : List Expr) (t : TA) : Prop :=
  ∀ (pos : Pos) (pins : List (Addr × Obj)) (s : Shared) (σ : St) (H : Hp) (Q : List V → Hp → Prop), Inv X pins σ H s → t σ H Q → wpAny (model X.prog X.w) X.A (spliced (backTo pos (starEach es X.env))) (AP X pins σ Q) X.xe s
def PS (X : Cx) (st : Stmt) (t : TS) : Prop :=
  ∀ (pins : List (Addr × Obj)) (s : Shared) (σ : St) (H : Hp) (D : Ends), Inv X pins σ H s → t D σ H → wpAny (model X.prog X.w) X.A (exec st X.env) (SP X pins D) X.xe s
def PSs (X : Cx) (st : List Stmt) (t : TS) : Prop :=
  ∀ (pins : List (Addr × Obj)) (s : Shared) (σ : St) (H : Hp) (D : Ends), Inv X pins σ H s → t D σ H → wpAny (model X.prog X.w) X.A (execs st X.env) (SP X pins D) X.xe s
/-- weaken the end -/
theorem thn {α : Type} {t : Sem α} {Q Q' : α → Shared → Prop} {M : Model} {A : Around} {E : Value → Shared → Prop} {s : Shared} (h : wpAny M A t Q E s) (hQ : ∀ a s, Q a s → Q' a s) : wpAny M A t Q' E s := wpAny_mono h hQ fun _ _ x => x
end L2

namespace L2
open PySem PySem.Spec PyProof.Rows
section
variable {X : Cx}

/-! ### names and constants -/
def tVar (i : Nat) : TE := fun σ H Q => ∃ v, σ[i]? = some (some v) ∧ Q v H
def tC (v : V) : TE := fun _ H Q => Q v H
theorem pe_var {i : Nat} {x : Str} {pos : Pos} (hN : X.N[i]? = some x) (hv : Vis X.env.scope x) (hd : (x == ("__debug__" : Str)) = false := by decide) (hcd : (x == ("__classdict__" : Str)) = false := by decide) : PE X (.Name x pos) (tVar i) := by
  intro pins s σ H Q I h
  obtain ⟨v, e, h⟩ := h
  obtain ⟨m, hn, hl⟩ := I.loc
  obtain ⟨u, r, l⟩ := hl i x v hN e hv
  have fin : EP X pins σ Q u s := ⟨v, H, I, r, h⟩
  rcases l with ⟨hk, hm⟩ | ⟨hk, c, hc, hcell⟩
  · exact wpAny_Name (wpAny_loadName_local I.ok.kind hk hn hm fin) hd
  · rcases hk with hk | hk
    · exact wpAny_Name (wpAny_loadName_cell I.ok.kind hk hc hcell fin) hd
    · exact wpAny_Name (wpAny_loadName_free I.ok.kind hk hc hcell fin hcd) hd
theorem pe_int {i j pos} : PE X (.Constant (.int i) j pos) (tC (.int i)) := fun _ _ _ H _ I h => wpAny_Constant_int ⟨.int i, H, I.tok _, ⟨_, rfl⟩, h⟩
theorem pe_bl {b j pos} : PE X (.Constant (.bool b) j pos) (tC (.bl b)) := fun _ _ _ H _ I h => Constant_bool ⟨.bl b, H, I, rfl, h⟩
theorem pe_non {j pos} : PE X (.Constant .none j pos) (tC .non) := fun _ _ _ H _ I h => Constant_none ⟨.non, H, I, rfl, h⟩
theorem pe_str {x j pos} : PE X (.Constant (.str x) j pos) (tC (.str x)) := fun _ _ _ H _ I h => Calls.Constant_str ⟨.str x, H, I.tok _, ⟨_, rfl⟩, h⟩

/-- a global name of the def -/
def Gl (X : Cx) (x : Str) : Prop := X.env.kindOf x = some .globalImplicit
theorem ld_glob {E : Value → Shared → Prop} {pins : List (Addr × Obj)} {s : Shared} {σ : St} {H : Hp} {x : Str} {u : Value} {pos : Pos} {Q : Value → Shared → Prop} (I : Inv X pins σ H s) (hg : Gl X x) (hm : X.mg x = some u) (h : Q u s)
    (hd : (x == ("__debug__" : Str)) = false := by decide) : wpAny (model X.prog X.w) X.A (eval (.Name x pos) X.env) Q E s :=
  Calls.Name_function_global I.ok.kind hg (Calls.loadGlobal_global (by rw [I.ok.glob]; exact I.mod.glob.keeps I.bk) hm h) hd
theorem ld_blt {E : Value → Shared → Prop} {pins : List (Addr × Obj)} {s : Shared} {σ : St} {H : Hp} {x : Str} {u : Value} {pos : Pos} {Q : Value → Shared → Prop} (I : Inv X pins σ H s) (hg : Gl X x) (hm : X.mg x = none) (hv : bootBuiltins x = some u) (h : Q u s)
    (hn : x ≠ "__name__" := by decide) (hd : (x == ("__debug__" : Str)) = false := by decide) : wpAny (model X.prog X.w) X.A (eval (.Name x pos) X.env) Q E s := by
  obtain ⟨mb, h1, h2⟩ := I.mod.blt
  exact Calls.Name_function_global I.ok.kind hg (Calls.loadGlobal_builtin (by rw [I.ok.glob]; exact I.mod.glob.keeps I.bk) hm (by rw [I.ok.blt]; exact h1.keeps I.bk) ((h2 x hn).trans hv) h) hd
/-- a module's constant, a class, a function, as a value -/
theorem pe_glob {x : Str} {v : V} {u : Value} {pos : Pos} (hg : Gl X x) (hm : X.mg x = some u) (r : RelV v u) (hd : (x == ("__debug__" : Str)) = false := by decide) : PE X (.Name x pos) (tC v) :=
  fun _ _ _ H _ I h => ld_glob I hg hm ⟨v, H, I, r, h⟩ hd
theorem pe_bltn {x : Str} {v : V} {u : Value} {pos : Pos} (hg : Gl X x) (hm : X.mg x = none) (hv : bootBuiltins x = some u) (r : RelV v u) (hn : x ≠ "__name__" := by decide) (hd : (x == ("__debug__" : Str)) = false := by decide) : PE X (.Name x pos) (tC v) :=
  fun _ _ _ H _ I h => ld_blt I hg hm hv ⟨v, H, I, r, h⟩ hn hd

/-! ### arithmetic -/
variable {a b : Expr} {ta tb : TE} {pos : Pos}
/-! ### comparisons -/
/-! ### and, or, not -/
variable {tA tB' : TT} {rest : List Expr}
def tAnd (t u : TT) : TT := fun σ H Q => t σ H fun c H1 => if c = true then u σ H1 Q else Q false H1
def tOr (t u : TT) : TT := fun σ H Q => t σ H fun c H1 => if c = true then Q true H1 else u σ H1 Q
def tNot (t : TT) : TT := fun σ H Q => t σ H fun c H1 => Q (!c) H1
theorem pw_and1 (ha : PT X a tA) : PW X (.BoolOp .And [a] pos) tA := by
  intro wh pins s σ H Q I h
  refine isTrue_and (thn (ha pins s σ H Q I h) fun c s1 e => ?_)
  cases c with
  | true => exact isTrue_and_nil e
  | false => exact e
theorem pw_or1 (ha : PT X a tA) : PW X (.BoolOp .Or [a] pos) tA := by
  intro wh pins s σ H Q I h
  refine isTrue_or (thn (ha pins s σ H Q I h) fun c s1 e => ?_)
  cases c with
  | false => exact isTrue_or_nil e
  | true => exact e
theorem pw_and (ha : PT X a tA) (hb : PW X (.BoolOp .And (b :: rest) pos) tB') : PW X (.BoolOp .And (a :: b :: rest) pos) (tAnd tA tB') := by
  intro wh pins s σ H Q I h
  refine isTrue_and (thn (ha pins s σ H _ I h) fun c s1 ⟨H1, I1, q1⟩ => ?_)
  cases c with
  | true => exact hb wh pins s1 σ H1 Q I1 q1
  | false => exact ⟨H1, I1, q1⟩
theorem pw_or (ha : PT X a tA) (hb : PW X (.BoolOp .Or (b :: rest) pos) tB') : PW X (.BoolOp .Or (a :: b :: rest) pos) (tOr tA tB') := by
  intro wh pins s σ H Q I h
  refine isTrue_or (thn (ha pins s σ H _ I h) fun c s1 ⟨H1, I1, q1⟩ => ?_)
  cases c with
  | true => exact ⟨H1, I1, q1⟩
  | false => exact hb wh pins s1 σ H1 Q I1 q1
theorem pt_not (ha : PT X a tA) : PT X (.UnaryOp .Not a pos) (tNot tA) := by
  intro pins s σ H Q I h
  exact isTrue_not (ha pins s σ H (fun c H1 => Q (!c) H1) I h)
/-- .. as values (bools) -/
def tAndV (ta tb : TE) : TE := fun σ H Q => ta σ H fun x H1 => ∃ c, x = .bl c ∧ if c = true then tb σ H1 Q else Q (.bl false) H1
def tNotV (ta : TE) : TE := fun σ H Q => ta σ H fun x H1 => ∃ c, x = .bl c ∧ Q (.bl (!c)) H1
theorem pe_one {op} {t : TE} (h : PE X a t) : PE X (.BoolOp op [a] pos) t := fun pins s σ H Q I hw => BoolOp_one (h pins s σ H Q I hw)
theorem pe_and (ha : PE X a ta) (hb : PE X (.BoolOp .And (b :: rest) pos) tb) : PE X (.BoolOp .And (a :: b :: rest) pos) (tAndV ta tb) := by
  intro pins s σ H Q I h
  refine BoolOp_and (thn (ha pins s σ H _ I h) fun v s1 ⟨x, H1, I1, r1, q1⟩ => ?_)
  obtain ⟨c, rfl, q1⟩ := q1
  cases r1
  refine wpAny_truthy_bool ?_
  cases c with
  | true => exact hb pins s1 σ H1 Q I1 q1
  | false => exact ⟨.bl false, H1, I1, rfl, q1⟩
theorem pe_not (ha : PE X a ta) : PE X (.UnaryOp .Not a pos) (tNotV ta) := by
  intro pins s σ H Q I h
  refine UnaryOp_ (thn (ha pins s σ H _ I h) fun v s1 ⟨x, H1, I1, r1, q1⟩ => ?_)
  obtain ⟨c, rfl, q1⟩ := q1
  cases r1
  exact not_of (wpAny_truthy_bool ⟨.bl (!c), H1, I1, rfl, q1⟩)
/-- a if t else b -/
def tIf (t : TT) (ta tb : TE) : TE := fun σ H Q => t σ H fun c H1 => if c = true then ta σ H1 Q else tb σ H1 Q
theorem pe_ifExp {c : Expr} (hc : PT X c tA) (ha : PE X a ta) (hb : PE X b tb) : PE X (.IfExp c a b pos) (tIf tA ta tb) := by
  intro pins s σ H Q I h
  refine wpAny_IfExp (thn (hc pins s σ H _ I h) fun d s1 ⟨H1, I1, q1⟩ => ?_)
  cases d with
  | true => exact ha pins s1 σ H1 Q I1 q1
  | false => exact hb pins s1 σ H1 Q I1 q1
end
end L2

namespace L2
open PySem PySem.Spec PyProof.Rows

/-! ### a list, a tuple that is read: tracked, frozen, or an object of the module -/
def SqL (K : PySem.W.Frag) (H : Hp) (a : Addr) (xs : List V) : Prop :=
  Rd H a (.lst xs) ∨
    ∃ (o : Obj) (its : Array Value) (n : Nat), K.lookup a = some o ∧ o.cls = .type "list" ∧ o.dict = none ∧ o.data = .seq its n ∧ its.size ≤ sizeLine ∧ Vals xs its.toList
def SqT (K : PySem.W.Frag) (H : Hp) (a : Addr) (xs : List V) : Prop :=
  Rd H a (.tup xs) ∨
    ∃ (o : Obj) (its : Array Value) (n : Nat), K.lookup a = some o ∧ o.cls = .type "tuple" ∧ o.data = .seq its n ∧ its.size ≤ sizeLine ∧ Vals xs its.toList
def absV : Value → Option V
  | .none => some .non
  | .bool b => some (.bl b)
  | .int i _ => some (.int i)
  | .str x _ => some (.str x)
  | .bytes b _ => some (.byt b)
  | .float b _ => some (.flt b)
  | .ref a => some (.ref a)
  | .type n => some (.ty n)
  | _ => none
theorem RelV.abs {x : V} {u : Value} (r : RelV x u) : absV u = some x := by
  cases x with
  | non => cases r; rfl
  | bl _ => cases r; rfl
  | int _ => obtain ⟨t, rfl⟩ := r; rfl
  | str _ => obtain ⟨t, rfl⟩ := r; rfl
  | byt _ => obtain ⟨t, rfl⟩ := r; rfl
  | flt _ => obtain ⟨t, rfl⟩ := r; rfl
  | ref _ => cases r; rfl
  | ty _ => cases r; rfl
theorem RelV.inj {x y : V} {u : Value} (r : RelV x u) (q : RelV y u) : x = y := Option.some.inj (r.abs.symm.trans q.abs)
theorem Vals.inj : ∀ {xs ys : List V} {us : List Value}, Vals xs us → Vals ys us → xs = ys
  | _, _, _, .nil, .nil => rfl
  | _, _, _, .cons r t, .cons r' t' => by rw [r.inj r', Vals.inj t t']
section
variable {X : Cx} {pins : List (Addr × Obj)} {σ : St} {H : Hp} {s : Shared} {a : Addr} {xs ys : List V}
theorem SqL.of {K : PySem.W.Frag} (h : H a = some (.lst xs)) : SqL K H a xs := .inl (.inl h)
theorem SqT.of {K : PySem.W.Frag} (h : H a = some (.tup xs)) : SqT K H a xs := .inl (.inl h)
theorem Inv.list (I : Inv X pins σ H s) (h : SqL X.K H a xs) : ∃ its : List Value, Vals xs its ∧ PlainL s.heap a its.toArray ∧ xs.length ≤ sizeLine := by
  rcases h with h | ⟨o, its, n, hk, hc, hd, hs, hz, r⟩
  · obtain ⟨z, its, n, r, e⟩ := h.ok I.hok
    exact ⟨its, r, ⟨_, n, e, rfl, rfl, rfl⟩, z⟩
  · refine ⟨its.toList, r, ⟨o, n, I.kIn a o hk, hc, hd, by simpa using hs⟩, ?_⟩
    have e := r.length
    simp only [Array.length_toList] at e
    omega
theorem Inv.tuple (I : Inv X pins σ H s) (h : SqT X.K H a xs) : ∃ its : List Value, Vals xs its ∧ IsTup s.heap a its.toArray ∧ xs.length ≤ sizeLine := by
  rcases h with h | ⟨o, its, n, hk, hc, hs, hz, r⟩
  · obtain ⟨z, its, r, p⟩ := h.ok I.hok
    exact ⟨its, r, p, z⟩
  · refine ⟨its.toList, r, ⟨o, I.kIn a o hk, hc, n, by simpa using hs⟩, ?_⟩
    have e := r.length
    simp only [Array.length_toList] at e
    omega
theorem Inv.list_inj (I : Inv X pins σ H s) (h : SqL X.K H a xs) (h' : SqL X.K H a ys) : xs = ys := by
  obtain ⟨its, r, ⟨o, n, e, _, _, d⟩, _⟩ := I.list h
  obtain ⟨its', r', ⟨o', n', e', _, _, d'⟩, _⟩ := I.list h'
  rw [e] at e'; cases e'
  rw [d] at d'
  injection d' with d1 _
  have : its = its' := by simpa using congrArg Array.toList d1
  subst this
  exact r.inj r'
theorem Inv.tuple_inj (I : Inv X pins σ H s) (h : SqT X.K H a xs) (h' : SqT X.K H a ys) : xs = ys := by
  obtain ⟨its, r, ⟨o, e, _, n, d⟩, _⟩ := I.tuple h
  obtain ⟨its', r', ⟨o', e', _, n', d'⟩, _⟩ := I.tuple h'
  rw [e] at e'; cases e'
  rw [d] at d'
  injection d' with d1 _
  have : its = its' := by simpa using congrArg Array.toList d1
  subst this
  exact r.inj r'
end

/-! ### another wish about exceptions -/
abbrev Cx.wish (X : Cx) (E : Value → Shared → Prop) : Cx := { X with xe := E }
/-- no exception leaves -/
abbrev Cx.nox (X : Cx) : Cx := X.wish fun _ _ => False
theorem Cx.Ok.wish {X : Cx} (ok : X.Ok) (E : Value → Shared → Prop) : (X.wish E).Ok :=
  ⟨ok.mod, ok.kind, ok.glob, ok.blt, ok.above, ok.inj, ok.has, ok.cab, ok.hd, ok.frames, ok.stk, ok.exf, ok.bs, ok.bsz, ok.noex, ok.exfs, ok.funs, ok.frf⟩
theorem Cx.Ok.unwish {X : Cx} {E : Value → Shared → Prop} (ok : (X.wish E).Ok) : X.Ok :=
  ⟨ok.mod, ok.kind, ok.glob, ok.blt, ok.above, ok.inj, ok.has, ok.cab, ok.hd, ok.frames, ok.stk, ok.exf, ok.bs, ok.bsz, ok.noex, ok.exfs, ok.funs, ok.frf⟩
section
variable {X : Cx} {pins : List (Addr × Obj)} {σ : St} {H : Hp} {s : Shared} {E : Value → Shared → Prop}
theorem Inv.wish (I : Inv X pins σ H s) (E : Value → Shared → Prop) : Inv (X.wish E) pins σ H s := ⟨I.ok.wish E, I.os, I.bare, I.base, I.loc, I.cell, I.free, I.freeC, I.pin, I.hok, I.len⟩
theorem Inv.unwish (I : Inv (X.wish E) pins σ H s) : Inv X pins σ H s := ⟨I.ok.unwish, I.os, I.bare, I.base, I.loc, I.cell, I.free, I.freeC, I.pin, I.hok, I.len⟩
theorem SP.unwish {D : Ends} {f : Flow} {s' : Shared} (h : SP (X.wish E) pins D f s') : SP X pins D f s' := by
  cases f with
  | next => obtain ⟨σ', H', I, q⟩ := h; exact ⟨σ', H', I.unwish, q⟩
  | brk => obtain ⟨σ', H', I, q⟩ := h; exact ⟨σ', H', I.unwish, q⟩
  | cont => obtain ⟨σ', H', I, q⟩ := h; exact ⟨σ', H', I.unwish, q⟩
  | ret u => obtain ⟨v, σ', H', I, r, q⟩ := h; exact ⟨v, σ', H', I.unwish, r, q⟩
theorem PE.nox {e : Expr} {t : TE} (h : PE X.nox e t) : PE X e t := fun pins s σ H Q I hw =>
  wpAny_mono (h pins s σ H Q (I.wish _) hw) (fun _ _ ⟨v, H', I', r, q⟩ => ⟨v, H', I'.unwish, r, q⟩) fun _ _ z => False.elim z
theorem PT.nox {e : Expr} {t : TT} (h : PT X.nox e t) : PT X e t := fun pins s σ H Q I hw =>
  wpAny_mono (h pins s σ H Q (I.wish _) hw) (fun _ _ ⟨H', I', q⟩ => ⟨H', I'.unwish, q⟩) fun _ _ z => False.elim z
theorem PSs.nox {st : List Stmt} {t : TS} (h : PSs X.nox st t) : PSs X st t := fun pins s σ H D I hw =>
  wpAny_mono (h pins s σ H D (I.wish _) hw) (fun _ _ q => q.unwish) fun _ _ z => False.elim z
end

/-! ### blocks and small statements -/
section
variable {X : Cx} {st : Stmt} {rest : List Stmt} {t u : TS} {e : Expr} {te : TE} {pos : Pos}
def tNext : TS := fun D σ H => D.nx σ H
def tSeq (t u : TS) : TS := fun D σ H => t { D with nx := u D } σ H
theorem pss_nil : PSs X [] tNext := fun _ _ σ H _ I h => wpAny_execs_nil ⟨σ, H, I, h⟩
theorem pss_cons (h1 : PS X st t) (h2 : PSs X rest u) : PSs X (st :: rest) (tSeq t u) := by
  intro pins s σ H D I h
  refine wpAny_execs_cons (thn (h1 pins s σ H { D with nx := u D } I h) fun f s1 q => ?_)
  cases f with
  | next =>
    obtain ⟨σ', H', I', q⟩ := q
    exact h2 pins s1 σ' H' D I' q
  | ret v => exact q
  | brk => exact q
  | cont => exact q
theorem pss_one (h1 : PS X st t) : PSs X [st] t := by
  intro pins s σ H D I h
  refine wpAny_execs_cons (thn (h1 pins s σ H D I h) fun f s1 q => ?_)
  cases f with
  | next => exact wpAny_execs_nil q
  | ret v => exact q
  | brk => exact q
  | cont => exact q
/-- in a def's body nothing is shown -/
theorem Inv.quiet {pins : List (Addr × Obj)} {σ : St} {H : Hp} {s : Shared} (I : Inv X pins σ H s) : interactive X.env = false := by simp [interactive, I.ok.kind]
/-- an expression whose value is dropped -/
def tDrop (te : TE) : TS := fun D σ H => te σ H fun _ H1 => D.nx σ H1
theorem ps_expr (he : PE X e te) (hs : swapsWith e none pos.line X.env = pure false := by rfl) : PS X (.Expr e pos) (tDrop te) := by
  intro pins s σ H D I h
  exact wpAny_Expr_any (thn (he pins s σ H _ I h) fun v s1 ⟨x, H1, I1, r1, q1⟩ => ⟨σ, H1, I1, q1⟩) I.quiet hs
def tRet (te : TE) : TS := fun D σ H => te σ H D.rt
theorem ps_ret (he : PE X e te) : PS X (.Return (some e) pos) (tRet te) := by
  intro pins s σ H D I h
  exact wpAny_Return_some (thn (he pins s σ H _ I h) fun v s1 ⟨x, H1, I1, r1, q1⟩ => ⟨x, σ, H1, I1, r1, q1⟩)
def tIfS (c : TT) (t u : TS) : TS := fun D σ H => c σ H fun b H1 => if b = true then t D σ H1 else u D σ H1
theorem ps_if {c : Expr} {a b : List Stmt} {tc : TT} (hc : PT X c tc) (ha : PSs X a t) (hb : PSs X b u) : PS X (.If c a b pos) (tIfS tc t u) := by
  intro pins s σ H D I h
  refine wpAny_If (thn (hc pins s σ H _ I h) fun d s1 ⟨H1, I1, q1⟩ => ?_)
  cases d with
  | true => exact ha pins s1 σ H1 D I1 q1
  | false => exact hb pins s1 σ H1 D I1 q1
/-- code that the proof never comes to -/
def tNever : TS := fun _ _ _ => False
theorem ps_never : PS X st tNever := fun _ _ _ _ _ _ h => h.elim
theorem pss_never {sts : List Stmt} : PSs X sts tNever := fun _ _ _ _ _ _ h => h.elim
end

/-! ### targets -/
abbrev TG := V → St → Hp → (St → Hp → Prop) → Prop
abbrev TGs := List V → St → Hp → (St → Hp → Prop) → Prop
def PG (X : Cx) (target : Expr) (t : TG) : Prop :=
  ∀ (pins : List (Addr × Obj)) (s : Shared) (σ : St) (H : Hp) (v : V) (u : Value) (Q : St → Hp → Prop), Inv X pins σ H s → RelV v u → t v σ H Q →
    wpAny (model X.prog X.w) X.A (assign target X.env u) (fun _ s' => ∃ σ' H', Inv X pins σ' H' s' ∧ Q σ' H') X.xe s
/-- several targets, one after another -/
def PGs (X : Cx) (ts : List Expr) (t : TGs) : Prop :=
  ∀ (pins : List (Addr × Obj)) (s : Shared) (σ : St) (H : Hp) (vs : List V) (us : List Value) (Q : St → Hp → Prop), Inv X pins σ H s → Vals vs us → t vs σ H Q →
    wpAny (model X.prog X.w) X.A (assignInOrder ((assignEach ts X.env).map (·.2)) us) (fun _ s' => ∃ σ' H', Inv X pins σ' H' s' ∧ Q σ' H') X.xe s
/-- o[i] = v, by values -/
abbrev TSet := V → V → V → Hp → (Hp → Prop) → Prop
def PSet (X : Cx) (t : TSet) : Prop :=
  ∀ (pins : List (Addr × Obj)) (s : Shared) (σ : St) (H : Hp) (o i v : V) (ov iv u : Value) (Q : Hp → Prop), Inv X pins σ H s → RelV o ov → RelV i iv → RelV v u → t o i v H Q →
    wpAny (model X.prog X.w) X.A (setItem ov iv u) (fun _ s' => ∃ H', Inv X pins σ H' s' ∧ Q H') X.xe s
section
variable {X : Cx} {pos : Pos}
def gName (i : Nat) : TG := fun v σ H Q => Q (σ.set i (some v)) H
theorem pg_name {i : Nat} {x : Str} (hN : X.N.Nodup) (hi : X.N[i]? = some x) (hx : Loc X.env.scope x) (hf : X.fn x = true ∨ X.env.scope.names.lookup x = some .local := by first | exact .inl rfl | exact .inr rfl | assumption) : PG X (.Name x pos) (gName i) := by
  intro pins s σ H v u Q I r h
  exact wpAny_assign_Name (store_ok I hN hi hx r (fun s' I' => ⟨_, H, I', h⟩) hf)
def gNil : TGs := fun vs σ H Q => vs = [] ∧ Q σ H
def gCons (t : TG) (u : TGs) : TGs := fun vs σ H Q => ∃ v r, vs = v :: r ∧ t v σ H fun σ' H' => u r σ' H' Q
theorem pgs_nil : PGs X [] gNil := by
  intro pins s σ H vs us Q I r h
  obtain ⟨e, h⟩ := h
  subst e
  cases r
  exact assignInOrder_nil ⟨σ, H, I, h⟩
theorem pgs_cons {e : Expr} {es : List Expr} {t : TG} {u : TGs} (h1 : PG X e t) (h2 : PGs X es u)
    (hs : (assignEach (e :: es) X.env).map (·.2) = assign e X.env :: (assignEach es X.env).map (·.2) := by rfl) : PGs X (e :: es) (gCons t u) := by
  intro pins s σ H vs us Q I r h
  obtain ⟨v, vr, e1, h⟩ := h
  subst e1
  cases r with
  | cons r rr =>
    rw [hs]
    refine assignInOrder_cons (thn (h1 pins s σ H _ _ _ I r h) fun _ s1 ⟨σ1, H1, I1, q1⟩ => ?_)
    exact h2 pins s1 σ1 H1 _ _ Q I1 rr q1
/-- (a, b, ..) = a tuple of that length -/
def gTup (K : PySem.W.Frag) (n : Nat) (t : TGs) : TG := fun v σ H Q => ∃ a xs, v = .ref a ∧ SqT K H a xs ∧ xs.length = n ∧ t xs σ H Q
theorem pg_tup {es : List Expr} {k : Nat} {t : TGs} {n : Nat} (hc : X.calm = true) (h : PGs X es t)
    (hn : (assignEach es X.env).length = n := by rfl) (hst : (assignEach es X.env).findIdx? (·.1) = none := by rfl) : PG X (.Tuple es k pos) (gTup X.K n t) := by
  intro pins s σ H v u Q I r hw
  obtain ⟨a, xs, e1, hq, hl, hw⟩ := hw
  subst e1
  cases r
  obtain ⟨its, rv, ht, hz⟩ := I.tuple hq
  refine assign_Tuple_tuple (I.ok.hd hc) ht (by simp [hn, ← hl, rv.length]) hst fun h' hx => ?_
  have I1 : Inv X pins σ H { s with heap := h' } := I.kept (t' := s.toks) fun b o e => hx b o (Nat.ne_of_lt (Heap.lt_size e)) e
  exact h pins _ σ H xs _ Q I1 (by simpa using rv) hw
/-- o[i] = .. -/
def gSub (to ti : TE) (t : TSet) : TG := fun v σ H Q => to σ H fun o H1 => ti σ H1 fun i H2 => t o i v H2 fun H3 => Q σ H3
theorem pg_sub {o i : Expr} {to ti : TE} {t : TSet} (ho : PE X o to) (hi : PE X i ti) (hs : PSet X t)
    (ha : ∀ v, assign (.Subscript o i pos) X.env v = (do
      let ov ← holding [v] (eval o X.env)
      let iv ← holding [v, ov] (eval i X.env)
      standAt pos
      holding [v, ov, iv] (setItem ov iv v)
      release [v, ov, iv] []) := by intro _; rfl) : PG X (.Subscript o i pos) (gSub to ti t) := by
  intro pins s σ H v u Q I r h
  rw [ha]
  refine wpAny_bind (wpAny_holding (thn (ho pins s σ H _ I h) fun ov s1 ⟨x, H1, I1, r1, q1⟩ => ?_))
  refine wpAny_bind (wpAny_holding (thn (hi pins s1 σ H1 _ I1 q1) fun iv s2 ⟨y, H2, I2, r2, q2⟩ => ?_))
  refine wpAny_bind (wpAny_standAt (wpAny_bind (wpAny_holding (thn (hs pins s2 σ H2 x y v ov iv u _ I2 r1 r2 r q2) fun _ s3 ⟨H3, I3, q3⟩ => ?_))))
  exact wpAny_release ⟨σ, H3, I3, q3⟩
/-- target = value -/
def tAsg (te : TE) (g : TG) : TS := fun D σ H => te σ H fun x H1 => g x σ H1 D.nx
theorem ps_asg {tg e : Expr} {te : TE} {g : TG} (he : PE X e te) (hg : PG X tg g) (hs : swapsWithSole [tg] e pos.line X.env = pure false := by rfl) (hw : swappedStores [tg] e X.env = pure none := by rfl)
    (h1 : (assignEach [tg] X.env).map (·.2) = [assign tg X.env] := by rfl) : PS X (.Assign [tg] e pos) (tAsg te g) := by
  intro pins s σ H D I h
  refine wpAny_Assign_stores (thn (he pins s σ H _ I h) fun v s1 ⟨x, H1, I1, r1, q1⟩ => ?_) hs hw
  rw [h1]
  exact thn (hg pins s1 σ H1 x v _ I1 r1 q1) fun _ s2 q => q
/-- name = value -/
theorem ps_set {i : Nat} {x : Str} {e : Expr} {te : TE} {pos' : Pos} (hN : X.N.Nodup) (hi : X.N[i]? = some x) (hx : Loc X.env.scope x) (he : PE X e te) (hs : swapsWith e (some (.Name x pos')) pos.line X.env = pure false := by rfl) (hf : X.fn x = true ∨ X.env.scope.names.lookup x = some .local := by first | exact .inl rfl | exact .inr rfl | assumption) :
    PS X (.Assign [.Name x pos'] e pos) (tAsg te (gName i)) := by
  intro pins s σ H D I h
  refine wpAny_Assign_Name (thn (he pins s σ H _ I h) fun v s1 ⟨y, H1, I1, r1, q1⟩ => ?_) hs
  exact store_ok I1 hN hi hx r1 (fun s2 I2 => ⟨_, H1, I2, q1⟩) hf
end

/-! ### while -/
section
variable {X : Cx} {pos : Pos}
end

/-! ### what a loop or a comprehension walks -/
/-- at turn i: it yields x (the heap may grow), or it stops -/
structure It where
  go : Nat → Hp → Prop
  yld : Nat → Hp → V → Hp → Prop
  stop : Nat → Hp → Prop
/-- the iterator's own objects may turn: they are not the frame's, not pinned, younger than the entry (or a comprehension's own) -/
def FpOk (X : Cx) (pins : List (Addr × Obj)) (H : Hp) (b : Addr) : Prop :=
  H b = none ∧ b ≠ X.env.locals ∧ b ∉ X.fs ∧ (b ∈ X.ex ∨ X.s₀.heap.objs.size ≤ b) ∧ (∀ x c, X.env.cells.lookup x = some c → c ≠ b) ∧ ∀ p ∈ X.pn ++ pins, p.1 ≠ b
theorem Inv.fpOk {X : Cx} {pins : List (Addr × Obj)} {σ : St} {H H' : Hp} {s : Shared} {b : Addr} (I : Inv X pins σ H s) (hb : s.heap.objs.size ≤ b) (hn : H' b = none) : FpOk X pins H' b := by
  refine ⟨hn, Nat.ne_of_gt (Nat.lt_of_lt_of_le I.lt hb), I.nofs hb, .inr (Nat.le_trans I.sz hb), fun x c e z => ?_, fun p hp z => ?_⟩
  · obtain ⟨v, q⟩ := I.cell x c e
    exact absurd (Nat.lt_of_lt_of_le q.lt (by rw [z]; exact hb)) (Nat.lt_irrefl _)
  · exact absurd (Nat.lt_of_lt_of_le (Heap.lt_size (I.pin p hp).1) (by rw [z]; exact hb)) (Nat.lt_irrefl _)
structure Turn (P : Program) (w : World) (K : PySem.W.Frag) (tg : Expr) (J : It) (fp : List Addr) (it : Addr) (tn : Nat → Heap → Prop) : Prop where
  mem : it ∈ fp
  obj : ∀ i h, tn i h → ∀ b ∈ fp, ∃ o, h.get? b = some o ∧ ∀ v, o.data ≠ .cell v
  keep : ∀ i h h', tn i h → (∀ b ∈ fp, ∀ o, h.get? b = some o → h'.get? b = some o) → tn i h'
  item : ∀ (X : Cx), X.prog = P → X.w = w → X.K = K → X.calm = true → ∀ (i : Nat) (pins : List (Addr × Obj)) (s : Shared) (σ : St) (H : Hp) (E : Value → Shared → Prop), Inv X pins σ H s → (∀ b ∈ fp, FpOk X pins H b) → tn i s.heap → J.go i H →
    wpAny (model P w) X.A (pyNext (.ref it)) (fun r s1 => ∃ u, r = some u ∧
      wpAny (model P w) X.A (letOwnedTupleGo tg (.ref it) u) (fun _ s2 => ∃ x H', Inv X pins σ H' s2 ∧ RelV x u ∧ J.yld i H x H' ∧ tn (i + 1) s2.heap ∧ ∀ b ∈ fp, H' b = none) E s1) E s
  done : ∀ (X : Cx), X.prog = P → X.w = w → X.K = K → X.calm = true → ∀ (i : Nat) (pins : List (Addr × Obj)) (s : Shared) (σ : St) (H : Hp) (E : Value → Shared → Prop), Inv X pins σ H s → (∀ b ∈ fp, FpOk X pins H b) → tn i s.heap → J.stop i H →
    wpAny (model P w) X.A (pyNext (.ref it)) (fun r s1 => r = none ∧ Inv X pins σ H s1) E s
  self : ∀ (A : Around) (i : Nat) (s : Shared) (Q : Value → Shared → Prop) (E : Value → Shared → Prop), tn i s.heap → Q (.ref it) s → wpAny (model P w) A (pyIter (.ref it)) Q E s
abbrev TI := St → Hp → (It → Hp → Prop) → Prop
/-- an iterator has come -/
def PIE (X : Cx) (pins : List (Addr × Obj)) (σ : St) (tg : Expr) (R : It → Hp → Prop) (itv : Value) (s2 : Shared) : Prop :=
  ∃ (it : Addr) (fp : List Addr) (tn : Nat → Heap → Prop) (J : It) (H' : Hp), itv = .ref it ∧ Inv X pins σ H' s2 ∧ Turn X.prog X.w X.K tg J fp it tn ∧ tn 0 s2.heap ∧ (∀ b ∈ fp, FpOk X pins H' b) ∧ R J H'
def PI (X : Cx) (tg iter : Expr) (wi : TI) : Prop :=
  ∀ (pins : List (Addr × Obj)) (s : Shared) (σ : St) (H : Hp) (R : It → Hp → Prop), Inv X pins σ H s → wi σ H R →
    wpAny (model X.prog X.w) X.A (eval iter X.env) (fun v s1 => wpAny (model X.prog X.w) X.A (pyIter v) (PIE X pins σ tg R) X.xe s1) X.xe s

/-- the step ahead of the store is nothing for an iterator that keeps no tuple -/
theorem go_of {M : Model} {A : Around} {E : Value → Shared → Prop} {s : Shared} {tg : Expr} {it : Addr} {u : Value} {o : Obj} {n : String} {vs : Array Value} {Q : Unit → Shared → Prop} (ho : s.heap.get? it = some o) (hc : o.cls = .type n) (hd : o.data = .fields vs)
    (hn : ["enumerate", "zip", "dict_itemiterator", "dict_reverseitemiterator", "odict_iterator", "itertools.zip_longest", "itertools.pairwise"].contains n = false) (hQ : Q () s) : wpAny M A (letOwnedTupleGo tg (.ref it) u) Q E s := by
  unfold letOwnedTupleGo
  cases tg <;> first
    | exact wpAny_pure hQ
    | (cases u <;> first
        | exact wpAny_pure hQ
        | (refine wpAny_bind (wpAny_load ho ?_)
           rw [hc, hd]
           show wpAny M A (if (["enumerate", "zip", "dict_itemiterator", "dict_reverseitemiterator", "odict_iterator", "itertools.zip_longest", "itertools.pairwise"].contains n && vs[0]? == some (rawInt _)) = true then _ else _) Q E s
           rw [if_neg (by intro h; rw [hn, Bool.false_and] at h; cases h)]
           exact wpAny_pure hQ))

/-- the list at a, as it stands at each turn (a loop may append to it) -/
def Itl (K : PySem.W.Frag) (a : Addr) : It :=
  ⟨fun i H => ∃ xs x, SqL K H a xs ∧ xs[i]? = some x, fun i H x H' => H' = H ∧ ∀ xs, SqL K H a xs → xs[i]? = some x, fun i H => ∃ xs, SqL K H a xs ∧ xs.length ≤ i⟩
/-- lo, lo + 1, .. (n of them) -/
def Itr (lo : Int) (n : Nat) : It := ⟨fun i _ => i < n, fun i H x H' => H' = H ∧ x = .int (lo + i), fun i _ => n ≤ i⟩
theorem turn_list {P : Program} {w : World} {K : PySem.W.Frag} {tg : Expr} (a it : Addr) : Turn P w K tg (Itl K a) [it] it (fun i h => h.IsListIter it a i) where
  mem := by simp
  obj := fun i h st b hb => by
    have e : b = it := by simpa using hb
    subst e
    obtain ⟨o, e, c, d⟩ := st
    exact ⟨o, e, fun v z => by rw [d] at z; cases z⟩
  keep := fun i h h' st k => st.at fun o e => k it (by simp) o e
  item := by
    intro X hP hw hK hc i pins s σ H E I hf st hg
    subst hP hw hK
    obtain ⟨xs, x, hq, hx⟩ := hg
    obtain ⟨its, rv, p, hz⟩ := I.list hq
    obtain ⟨u, hu, ru⟩ := rv.get hx
    obtain ⟨f0, f1, f2, f3, f4, f5⟩ := hf it (by simp)
    refine wpAny_pyNext_list_item st p.isList (x := u) (by simpa using hu) fun h' st' sb => ?_
    have I1 : Inv X pins σ H { s with heap := h' } := I.turned (t' := s.toks) (fun b o hb e => (sb.2 b hb).trans e) f0 f1 f3 f4 f5
    obtain ⟨o, e, c, d⟩ := id st'
    exact ⟨u, rfl, go_of (s := { s with heap := h' }) e c d (by decide) ⟨x, H, I1, ru, ⟨rfl, fun ys hy => by rw [I.list_inj hy hq]; exact hx⟩, st', fun b hb => (hf b hb).1⟩⟩
  done := by
    intro X hP hw hK hc i pins s σ H E I hf st hg
    subst hP hw hK
    obtain ⟨xs, hq, hx⟩ := hg
    obtain ⟨its, rv, p, hz⟩ := I.list hq
    obtain ⟨f0, f1, f2, f3, f4, f5⟩ := hf it (by simp)
    have hl := rv.length
    exact wpAny_pyNext_list_end (I.ok.hd hc) st p.isList (by simp; omega) fun h' eb => ⟨rfl, I.turned (t' := s.toks) (fun b o hb e => eb b o hb e) f0 f1 f3 f4 f5⟩
  self := fun _ _ _ _ _ st h => wpAny_pyIter_listiter st h
theorem turn_range {P : Program} {w : World} {K : PySem.W.Frag} {tg : Expr} (it : Addr) (lo : Int) (n : Nat) : Turn P w K tg (Itr lo n) [it] it (fun i h => IsRangeIter h it (lo + (i : Nat) * 1) ((n : Int) - (i : Nat)) 1) where
  mem := by simp
  obj := fun i h st b hb => by
    have e : b = it := by simpa using hb
    subst e
    exact ⟨_, st, fun v z => by
      have z' : Data.fields _ = Data.cell v := z
      cases z'⟩
  keep := fun i h h' st k => k it (by simp) _ st
  item := by
    intro X hP hw hK hc i pins s σ H E I hf st hg
    subst hP hw hK
    obtain ⟨f0, f1, f2, f3, f4, f5⟩ := hf it (by simp)
    have W := Walks.range (prog := X.prog) (w := X.w) (I.ok.hd hc) it lo 1 n
    refine W.item i s _ _ hg st fun v h' tk hv st' kk => ?_
    obtain ⟨t, rfl⟩ := hv
    have I1 : Inv X pins σ H { s with heap := h', toks := tk } := I.turned (fun b o hb e => kk b o (by simpa using hb) e) f0 f1 f3 f4 f5
    refine ⟨_, rfl, go_of (s := { s with heap := h', toks := tk }) (n := "range_iterator") st' rfl rfl (by decide) ⟨.int (lo + i), H, I1, ⟨t, ?_⟩, ⟨rfl, rfl⟩, st', fun b hb => (hf b hb).1⟩⟩
    rw [Int.mul_one]
  done := by
    intro X hP hw hK hc i pins s σ H E I hf st hg
    subst hP hw hK
    obtain ⟨f0, f1, f2, f3, f4, f5⟩ := hf it (by simp)
    exact wpAny_pyNext_range_end (I.ok.hd hc) st (by have : n ≤ i := hg; omega) fun h' eb => ⟨rfl, I.turned (t' := s.toks) (fun b o hb e => eb b o hb e) f0 f1 f3 f4 f5⟩
  self := fun _ _ _ _ _ st h => wpAny_pyIter_rangeiter st h
end L2

namespace L2
open PySem PySem.Spec PyProof.Rows
section
variable {X : Cx} {tg : Expr}
def iList (K : PySem.W.Frag) (tl : TE) : TI := fun σ H R => tl σ H fun x H1 => ∃ a, x = .ref a ∧ (∃ xs, SqL K H1 a xs) ∧ R (Itl K a) H1
theorem pi_list {l : Expr} {tl : TE} (hl : PE X l tl) : PI X tg l (iList X.K tl) := by
  intro pins s σ H R I h
  refine thn (hl pins s σ H _ I h) fun v s1 ⟨x, H1, I1, r1, q1⟩ => ?_
  obtain ⟨a, e, ⟨xs, hq⟩, q⟩ := q1
  subst e
  cases r1
  obtain ⟨its, rv, p, hz⟩ := I1.list hq
  refine wpAny_pyIter_list p.isList ?_
  refine ⟨s1.heap.objs.size, [s1.heap.objs.size], _, _, H1, rfl, I1.kept (t' := s1.toks) fun b o e => Heap.get?_push_of_some _ e, turn_list a _, ⟨_, Heap.get?_push_size _ rfl, rfl, rfl⟩, fun b hb => ?_, q⟩
  have e : b = s1.heap.objs.size := by simpa using hb
  subst e
  exact I1.fpOk (Nat.le_refl _) (I1.hok.fresh (Nat.le_refl _))
/-- a range object just made, walked -/
theorem range_it {pins : List (Addr × Obj)} {σ : St} {H : Hp} {s : Shared} {R : It → Hp → Prop} {E : Value → Shared → Prop} {lo hi : Int} {t u v : Tok} {tk : Nat} (I : Inv X pins σ H s) (h1 : -(2 ^ 62) ≤ lo) (h2 : lo < 2 ^ 62) (h3 : -(2 ^ 62) ≤ hi) (h4 : hi < 2 ^ 62)
    (q : R (Itr lo (hi - lo).toNat) H) : wpAny (model X.prog X.w) X.A (pyIter (.ref s.heap.objs.size)) (PIE X pins σ tg R) E { s with heap := s.heap.push { cls := .type "range", data := .fields #[.int lo t, .int hi u, .int 1 v] }, toks := tk } := by
  refine wpAny_pyIter_range (IsRange.new ..) (small_one h1 h2 h3 h4) ?_
  have I1 : Inv X pins σ H { s with heap := s.heap.push { cls := .type "range", data := .fields #[.int lo t, .int hi u, .int 1 v] }, toks := tk } := I.kept fun b o e => Heap.get?_push_of_some _ e
  refine ⟨(s.heap.push { cls := .type "range", data := .fields #[.int lo t, .int hi u, .int 1 v] }).objs.size, [(s.heap.push { cls := .type "range", data := .fields #[.int lo t, .int hi u, .int 1 v] }).objs.size], _, _, H, rfl,
    I1.kept (t' := tk) fun b o e => Heap.get?_push_of_some _ e, turn_range _ lo (hi - lo).toNat, ?_, fun b hb => ?_, q⟩
  · have e1 : lo + ((0 : Nat) : Int) * 1 = lo := by simp
    have e2 : (((hi - lo).toNat : Nat) : Int) - ((0 : Nat) : Int) = Builtin.Range.rangeSize lo hi 1 := by rw [rangeSize_one]; split <;> omega
    show IsRangeIter _ _ (lo + ((0 : Nat) : Int) * 1) ((((hi - lo).toNat : Nat) : Int) - ((0 : Nat) : Int)) 1
    rw [e1, e2]
    exact Heap.get?_push_size _ rfl
  · have e : b = (s.heap.push { cls := .type "range", data := .fields #[.int lo t, .int hi u, .int 1 v] }).objs.size := by simpa using hb
    subst e
    exact I1.fpOk (Nat.le_refl _) (I1.hok.fresh (Nat.le_refl _))
def iRng1 (ta : TA) : TI := fun σ H R => ta σ H fun vs H1 => ∃ j : Int, vs = [.int j] ∧ -(2 ^ 62) ≤ j ∧ j < 2 ^ 62 ∧ R (Itr 0 j.toNat) H1
def iRng2 (ta : TA) : TI := fun σ H R => ta σ H fun vs H1 => ∃ i j : Int, vs = [.int i, .int j] ∧ (-(2 ^ 62) ≤ i ∧ i < 2 ^ 62 ∧ -(2 ^ 62) ≤ j ∧ j < 2 ^ 62) ∧ R (Itr i (j - i).toNat) H1
theorem pi_range1 {a : Expr} {ta : TA} {p pos : Pos} (hg : Gl X "range") (hm : X.mg "range" = none) (ha : PA X [a] ta) (hs : starEach [a] X.env = [(false, eval a X.env)] := by rfl) : PI X tg (.Call (.Name "range" p) [a] [] pos) (iRng1 ta) := by
  intro pins s σ H R I h
  refine Call_ (ld_blt I hg hm boot_range (PyProof.Rows.callWith_type1 (thn (ha pos pins s σ H _ I h) fun us s1 ⟨vs, H1, I1, r1, q1⟩ => ?_) hs rfl))
  obtain ⟨j, e, q1, q2, q⟩ := q1
  subst e
  cases r1 with
  | cons r rr =>
    cases rr
    obtain ⟨t, rfl⟩ := r
    exact call_range_1 (range_it I1 (by omega) (by omega) q1 q2 (by simpa using q))
theorem pi_range2 {a b : Expr} {ta : TA} {p pos : Pos} (hg : Gl X "range") (hm : X.mg "range" = none) (ha : PA X [a, b] ta) (hs : starEach [a, b] X.env = [(false, eval a X.env), (false, eval b X.env)] := by rfl) (hs2 : starEach [b] X.env = [(false, eval b X.env)] := by rfl) :
    PI X tg (.Call (.Name "range" p) [a, b] [] pos) (iRng2 ta) := by
  intro pins s σ H R I h
  refine Call_ (ld_blt I hg hm boot_range (PyProof.Rows.callWith_type1 (thn (ha pos pins s σ H _ I h) fun us s1 ⟨vs, H1, I1, r1, q1⟩ => ?_) (by rw [hs, hs2]) (by rw [hs2]; rfl)))
  obtain ⟨i, j, e, ⟨q1, q2, q3, q4⟩, q⟩ := q1
  subst e
  cases r1 with
  | cons r rr =>
    cases rr with
    | cons r' rr =>
      cases rr
      obtain ⟨t, rfl⟩ := r
      obtain ⟨t', rfl⟩ := r'
      exact call_range_2 (range_it I1 q1 q2 q3 q4 q)

/-! ### for -/
/-- W: the invariant by the turn and a measure; N: what the body is to reach -/
def tFor (wi : TI) (g : TG) (tb : TS) : TS := fun D σ H => wi σ H fun J H1 => ∃ W : Nat → Nat → St → Hp → Prop, (∃ m, W 0 m σ H1) ∧ ∀ i m σ H, W i m σ H →
  (J.stop i H ∧ D.nx σ H) ∨ (J.go i H ∧ ∃ N : St → Hp → Prop, (∀ σ' H', N σ' H' → ∃ m', m' < m ∧ W (i + 1) m' σ' H') ∧ ∀ x H', J.yld i H x H' → g x σ H' fun σ2 H2 => tb { D with nx := N, ct := N, bk := D.nx } σ2 H2)
/-- the records at fp as they stand -/
def pinsAt (fp : List Addr) (h : Heap) : List (Addr × Obj) := fp.filterMap fun b => (h.get? b).map fun o => (b, o)
theorem mem_pinsAt {fp : List Addr} {h : Heap} {b : Addr} {o : Obj} (hb : b ∈ fp) (e : h.get? b = some o) : (b, o) ∈ pinsAt fp h := List.mem_filterMap.mpr ⟨b, hb, by rw [e]; rfl⟩
theorem of_pinsAt {fp : List Addr} {h : Heap} {p : Addr × Obj} (hp : p ∈ pinsAt fp h) : p.1 ∈ fp ∧ h.get? p.1 = some p.2 := by
  obtain ⟨b, hb, e⟩ := List.mem_filterMap.mp hp
  cases q : h.get? b with
  | none => rw [q] at e; cases e
  | some o =>
    rw [q] at e
    have e' : (b, o) = p := Option.some.inj e
    subst e'
    exact ⟨hb, q⟩
theorem Inv.pinned {pins : List (Addr × Obj)} {σ : St} {H : Hp} {s : Shared} {fp : List Addr} (I : Inv X pins σ H s) (hf : ∀ b ∈ fp, FpOk X pins H b) (ho : ∀ b ∈ fp, ∃ o, s.heap.get? b = some o ∧ ∀ v, o.data ≠ .cell v) : Inv X (pins ++ pinsAt fp s.heap) σ H s :=
  I.pins_of fun p hp => (List.mem_append.mp hp).elim (fun z => I.pin p (List.mem_append_right _ z)) fun z => by
    obtain ⟨hb, e⟩ := of_pinsAt z
    obtain ⟨f0, f1, f2, _⟩ := hf p.1 hb
    obtain ⟨o, e', d⟩ := ho p.1 hb
    rw [e] at e'; cases e'
    exact ⟨e, f0, f1, f2, d⟩
theorem Inv.unpinned {pins pl : List (Addr × Obj)} {σ : St} {H : Hp} {s : Shared} (I : Inv X (pins ++ pl) σ H s) : Inv X pins σ H s := I.pins_of fun p hp => I.pin p (List.mem_append_right _ (List.mem_append_left _ hp))
theorem ps_for {iter : Expr} {body : List Stmt} {wi : TI} {g : TG} {tb : TS} {pos : Pos} (hp : PassesOwn (model X.prog X.w) X.A X.env X.xe) (hc : X.calm = true) (hi : PI X tg iter wi) (hg : PG X tg g) (hb : PSs X body tb)
    (hs : ∀ x, foldedSetIterable iter X.env x = pure x := by intro _; rfl) : PS X (.For tg iter body [] pos) (tFor wi g tb) := by
  intro pins s σ H D I h
  refine wpAny_For (thn (hi pins s σ H _ I h) fun v s1 h1 => thn h1 fun itv s2 h2 => ?_) hs
  obtain ⟨it, fp, tn, J, H2, e, I2, T, st2, f2, W, ⟨m0, w0⟩, turn⟩ := h2
  subst e
  -- what stays true of the iterator's objects through the loop
  have stat : ∀ {H' : Hp}, (∀ b ∈ fp, H' b = none) → ∀ b ∈ fp, FpOk X pins H' b := fun hn b hb => ⟨hn b hb, (f2 b hb).2⟩
  refine codeAny_forLoop_any (fun n s' => ∃ i σ' H', Inv X pins σ' H' s' ∧ tn i s'.heap ∧ (∀ b ∈ fp, H' b = none) ∧ W i n σ' H') ?_ m0 ⟨0, σ, H2, I2, st2, fun b hb => (f2 b hb).1, w0⟩
  rintro n s3 ⟨i, σ3, H3, I3, st3, fr3, w3⟩
  rcases turn i n σ3 H3 w3 with ⟨stop, qn⟩ | ⟨go, N, hN, step⟩
  · refine wpAny_passesOwn hp (thn (T.done X rfl rfl rfl hc i pins s3 σ3 H3 X.xe I3 (stat fr3) st3 stop) fun r s4 ⟨hr, I4⟩ => ?_)
    subst hr
    exact wpAny_execs_nil ⟨σ3, H3, I4, qn⟩
  · refine wpAny_passesOwn hp (thn (T.item X rfl rfl rfl hc i pins s3 σ3 H3 X.xe I3 (stat fr3) st3 go) fun r s4 ⟨u, hr, h4⟩ => ?_)
    subst hr
    refine wpAny_passesOwn hp (thn h4 fun _ s5 ⟨x, H5, I5, r5, y5, st5, fr5⟩ => ?_)
    have I5' := I5.pinned (stat fr5) (T.obj _ _ st5)
    refine wpAny_passesOwn hp (thn (hg _ s5 σ3 H5 x u _ I5' r5 (step x H5 y5)) fun _ s6 ⟨σ6, H6, I6, q6⟩ => ?_)
    refine wpAny_passesOwn hp (thn (hb _ s6 σ6 H6 _ I6 q6) fun f s7 q7 => ?_)
    have again : ∀ {σ7 : St} {H7 : Hp}, Inv X (pins ++ pinsAt fp s5.heap) σ7 H7 s7 → N σ7 H7 → ∃ m, m < n ∧ ∃ i σ' H', Inv X pins σ' H' s7 ∧ tn i s7.heap ∧ (∀ b ∈ fp, H' b = none) ∧ W i m σ' H' := fun {σ7 H7} I7 n7 => by
      obtain ⟨m', hm, w7⟩ := hN σ7 H7 n7
      refine ⟨m', hm, i + 1, σ7, H7, I7.unpinned, T.keep _ _ _ st5 fun b hb o e => (I7.pin (b, o) (List.mem_append_right _ (List.mem_append_right _ (mem_pinsAt hb e)))).1, fun b hb => ?_, w7⟩
      obtain ⟨o, e, d⟩ := T.obj _ _ st5 b hb
      exact (I7.pin (b, o) (List.mem_append_right _ (List.mem_append_right _ (mem_pinsAt hb e)))).2.1
    cases f with
    | next => obtain ⟨σ7, H7, I7, n7⟩ := q7; exact again I7 n7
    | cont => obtain ⟨σ7, H7, I7, n7⟩ := q7; exact again I7 n7
    | brk => obtain ⟨σ7, H7, I7, q7⟩ := q7; exact ⟨σ7, H7, I7.unpinned, q7⟩
    | ret v => obtain ⟨x7, σ7, H7, I7, r7, q7⟩ := q7; exact ⟨x7, σ7, H7, I7.unpinned, r7, q7⟩
end

/-! ### the forms one uses -/
/-- over a list that the body leaves as it is -/
theorem for_list {K : PySem.W.Frag} {a : Addr} {xs : List V} {g : TG} {tb : TS} {D : Ends} {σ : St} {H : Hp} (Pv : Nat → St → Hp → Prop) (h0 : Pv 0 σ H) (hl : ∀ i σ H, i ≤ xs.length → Pv i σ H → SqL K H a xs)
    (hs : ∀ i x σ H, xs[i]? = some x → Pv i σ H → g x σ H fun σ2 H2 => tb { D with nx := Pv (i + 1), ct := Pv (i + 1), bk := D.nx } σ2 H2) (hd : ∀ σ H, Pv xs.length σ H → D.nx σ H) :
    ∃ W : Nat → Nat → St → Hp → Prop, (∃ m, W 0 m σ H) ∧ ∀ i m σ H, W i m σ H →
      ((Itl K a).stop i H ∧ D.nx σ H) ∨ ((Itl K a).go i H ∧ ∃ N : St → Hp → Prop, (∀ σ' H', N σ' H' → ∃ m', m' < m ∧ W (i + 1) m' σ' H') ∧ ∀ x H', (Itl K a).yld i H x H' → g x σ H' fun σ2 H2 => tb { D with nx := N, ct := N, bk := D.nx } σ2 H2) := by
  refine ⟨fun i m σ H => m = xs.length - i ∧ i ≤ xs.length ∧ Pv i σ H, ⟨xs.length, by simp, Nat.zero_le _, h0⟩, ?_⟩
  rintro i m σ H ⟨rfl, hi, p⟩
  have q := hl i σ H hi p
  by_cases hlt : i < xs.length
  · refine .inr ⟨⟨xs, xs[i], q, by simp [hlt]⟩, Pv (i + 1), fun σ' H' p' => ⟨xs.length - (i + 1), by omega, rfl, hlt, p'⟩, fun x H' y => ?_⟩
    obtain ⟨e, y⟩ := y
    subst e
    exact hs i x σ _ (y xs q) p
  · have e : i = xs.length := by omega
    subst e
    exact .inl ⟨⟨xs, q, Nat.le_refl _⟩, hd σ H p⟩
theorem for_range {lo : Int} {n : Nat} {g : TG} {tb : TS} {D : Ends} {σ : St} {H : Hp} (Pv : Nat → St → Hp → Prop) (h0 : Pv 0 σ H)
    (hs : ∀ i σ H, i < n → Pv i σ H → g (.int (lo + i)) σ H fun σ2 H2 => tb { D with nx := Pv (i + 1), ct := Pv (i + 1), bk := D.nx } σ2 H2) (hd : ∀ σ H, Pv n σ H → D.nx σ H) :
    ∃ W : Nat → Nat → St → Hp → Prop, (∃ m, W 0 m σ H) ∧ ∀ i m σ H, W i m σ H →
      ((Itr lo n).stop i H ∧ D.nx σ H) ∨ ((Itr lo n).go i H ∧ ∃ N : St → Hp → Prop, (∀ σ' H', N σ' H' → ∃ m', m' < m ∧ W (i + 1) m' σ' H') ∧ ∀ x H', (Itr lo n).yld i H x H' → g x σ H' fun σ2 H2 => tb { D with nx := N, ct := N, bk := D.nx } σ2 H2) := by
  refine ⟨fun i m σ H => m = n - i ∧ i ≤ n ∧ Pv i σ H, ⟨n, by simp, Nat.zero_le _, h0⟩, ?_⟩
  rintro i m σ H ⟨rfl, hi, p⟩
  by_cases hlt : i < n
  · refine .inr ⟨hlt, Pv (i + 1), fun σ' H' p' => ⟨n - (i + 1), by omega, rfl, hlt, p'⟩, fun x H' y => ?_⟩
    obtain ⟨e, y⟩ := y
    subst e y
    exact hs i σ _ hlt p
  · have e : i = n := by omega
    subst e
    exact .inl ⟨Nat.le_refl _, hd σ H p⟩
end L2

namespace L2
open PySem PySem.Spec PyProof.Rows

abbrev R2 := V → V → Hp → VK → Prop
/-- a two-place operation on values: f is binaryOp op, inplaceOp op or compareOp op -/
def OpR (X : Cx) (f : Value → Value → Sem Value) (r : R2) : Prop :=
  ∀ (pins : List (Addr × Obj)) (s : Shared) (σ : St) (H : Hp) (x y : V) (v u : Value) (Q : VK), Inv X pins σ H s → RelV x v → RelV y u → r x y H Q →
    wpAny (model X.prog X.w) X.A (f v u) (EP X pins σ Q) X.xe s
/-- a one-place operation -/
def UnR (X : Cx) (f : Value → Sem Value) (r : V → Hp → VK → Prop) : Prop :=
  ∀ (pins : List (Addr × Obj)) (s : Shared) (σ : St) (H : Hp) (x : V) (v : Value) (Q : VK), Inv X pins σ H s → RelV x v → r x H Q →
    wpAny (model X.prog X.w) X.A (f v) (EP X pins σ Q) X.xe s
/-- a call of a value that is known (a builtin, a type) with values -/
def CallR (X : Cx) (f : Value) (r : List V → Hp → VK → Prop) : Prop :=
  ∀ (pins : List (Addr × Obj)) (s : Shared) (σ : St) (H : Hp) (xs : List V) (us : List Value) (Q : VK), Inv X pins σ H s → Vals xs us → r xs H Q →
    wpAny (model X.prog X.w) X.A (call f us) (EP X pins σ Q) X.xe s
/-- a value's truth -/
def TruR (X : Cx) (r : V → Hp → (Bool → Hp → Prop) → Prop) : Prop :=
  ∀ (pins : List (Addr × Obj)) (s : Shared) (σ : St) (H : Hp) (x : V) (v : Value) (Q : Bool → Hp → Prop), Inv X pins σ H s → RelV x v → r x H Q →
    wpAny (model X.prog X.w) X.A (truthy v) (TP X pins σ Q) X.xe s

def tOp (r : R2) (ta tb : TE) : TE := fun σ H Q => ta σ H fun x H1 => tb σ H1 fun y H2 => r x y H2 Q
def tUn (r : V → Hp → VK → Prop) (ta : TE) : TE := fun σ H Q => ta σ H fun x H1 => r x H1 Q
/-- ints in, under C, and a value out -/
def rI (C : Int → Int → Prop) (g : Int → Int → V) : R2 := fun x y H Q => ∃ i j, x = .int i ∧ y = .int j ∧ C i j ∧ Q (g i j) H
def rI0 (g : Int → Int → V) : R2 := fun x y H Q => ∃ i j, x = .int i ∧ y = .int j ∧ Q (g i j) H
def rU (g : Int → V) : V → Hp → VK → Prop := fun x H Q => ∃ i, x = .int i ∧ Q (g i) H

section
variable {X : Cx} {a b c : Expr} {ta tb tc : TE} {pos : Pos}

theorem binT (ha : PE X a ta) (hb : PE X b tb) {pins : List (Addr × Obj)} {s : Shared} {σ : St} {H : Hp} {R : V → V → Hp → Prop} (I : Inv X pins σ H s)
    (h : ta σ H fun x H1 => tb σ H1 fun y H2 => R x y H2) {Q : Value → Shared → Prop} {f : Value → Value → Sem Value}
    (hf : ∀ v u s2 x y H2, Inv X pins σ H2 s2 → RelV x v → RelV y u → R x y H2 → wpAny (model X.prog X.w) X.A (f v u) Q X.xe s2) :
    wpAny (model X.prog X.w) X.A (eval a X.env) (fun v s₁ => wpAny (model X.prog X.w) X.A (eval b X.env) (fun u s₂ => wpAny (model X.prog X.w) X.A (f v u) Q X.xe s₂) X.xe s₁) X.xe s := by
  refine thn (ha pins s σ H _ I h) fun v s1 ⟨x, H1, I1, r1, q1⟩ => ?_
  refine thn (hb pins s1 σ H1 _ I1 q1) fun u s2 ⟨y, H2, I2, r2, q2⟩ => ?_
  exact hf v u s2 x y H2 I2 r1 r2 q2

theorem pe_op {op : Operator} {r : R2} (ho : OpR X (binaryOp op) r) (ha : PE X a ta) (hb : PE X b tb) : PE X (.BinOp a op b pos) (tOp r ta tb) := by
  intro pins s σ H Q I h
  exact wpAny_BinOp (binT ha hb I h fun v u s2 x y H2 I2 rx ry q => ho pins s2 σ H2 x y v u Q I2 rx ry q)
theorem pe_un {op : UnaryOp} {r : V → Hp → VK → Prop} (ho : UnR X (unaryOp op) r) (ha : PE X a ta) : PE X (.UnaryOp op a pos) (tUn r ta) := by
  intro pins s σ H Q I h
  exact UnaryOp_ (thn (ha pins s σ H _ I h) fun v s1 ⟨x, H1, I1, r1, q1⟩ => ho pins s1 σ H1 x v Q I1 r1 q1)
/-! ### ints -/
theorem opI {f : Value → Value → Sem Value} {C : Int → Int → Prop} {g : Int → Int → Int}
    (rule : ∀ (i j : Int) (t u : Tok) (s : Shared) (Q : Value → Shared → Prop) (E : Value → Shared → Prop), C i j → Q (.int (g i j) s.toks) { s with toks := s.toks + 1 } → wpAny (model X.prog X.w) X.A (f (.int i t) (.int j u)) Q E s) :
    OpR X f (rI C fun i j => .int (g i j)) := by
  intro pins s σ H x y v u Q I rx ry h
  obtain ⟨i, j, rfl, rfl, hc, q⟩ := h
  obtain ⟨t, rfl⟩ := rx
  obtain ⟨t', rfl⟩ := ry
  exact rule i j t t' s _ _ hc ⟨.int (g i j), H, I.tok _, ⟨_, rfl⟩, q⟩
theorem opI0 {f : Value → Value → Sem Value} {g : Int → Int → Int}
    (rule : ∀ (i j : Int) (t u : Tok) (s : Shared) (Q : Value → Shared → Prop) (E : Value → Shared → Prop), Q (.int (g i j) s.toks) { s with toks := s.toks + 1 } → wpAny (model X.prog X.w) X.A (f (.int i t) (.int j u)) Q E s) :
    OpR X f (rI0 fun i j => .int (g i j)) := by
  intro pins s σ H x y v u Q I rx ry h
  obtain ⟨i, j, rfl, rfl, q⟩ := h
  obtain ⟨t, rfl⟩ := rx
  obtain ⟨t', rfl⟩ := ry
  exact rule i j t t' s _ _ ⟨.int (g i j), H, I.tok _, ⟨_, rfl⟩, q⟩
theorem opB0 {f : Value → Value → Sem Value} {g : Int → Int → Bool}
    (rule : ∀ (i j : Int) (t u : Tok) (s : Shared) (Q : Value → Shared → Prop) (E : Value → Shared → Prop), Q (.bool (g i j)) s → wpAny (model X.prog X.w) X.A (f (.int i t) (.int j u)) Q E s) :
    OpR X f (rI0 fun i j => .bl (g i j)) := by
  intro pins s σ H x y v u Q I rx ry h
  obtain ⟨i, j, rfl, rfl, q⟩ := h
  obtain ⟨t, rfl⟩ := rx
  obtain ⟨t', rfl⟩ := ry
  exact rule i j t t' s _ _ ⟨.bl (g i j), H, I, rfl, q⟩

def CDiv (i j : Int) : Prop := 0 < j ∧ j < 1073741824
def CPow (i j : Int) : Prop := 0 ≤ j ∧ j ≤ 1000000 ∧ i.natAbs < 2 ^ 64
def CMul (i j : Int) : Prop := (-(2 ^ 64) < i ∧ i < 2 ^ 64) ∨ (-(2 ^ 64) < j ∧ j < 2 ^ 64)
theorem CMul.ok {i j : Int} (h : CMul i j) : IntMulOk i j := by
  rcases h with ⟨h1, h2⟩ | ⟨h1, h2⟩
  · exact .of_left (intBits_le_64 h1 h2)
  · exact .of_right (intBits_le_64 h1 h2)
theorem op_add : OpR X (binaryOp .Add) (rI0 fun i j => .int (i + j)) := opI0 fun _ _ _ _ _ _ _ q => add_int q
theorem op_sub : OpR X (binaryOp .Sub) (rI0 fun i j => .int (i - j)) := opI0 fun _ _ _ _ _ _ _ q => sub_int q
theorem op_mul : OpR X (binaryOp .Mult) (rI CMul fun i j => .int (i * j)) := opI fun _ _ _ _ _ _ _ hc q => mul_int q hc.ok
/-- // by a positive divisor -/
theorem op_fdiv : OpR X (binaryOp .FloorDiv) (rI CDiv fun i j => .int (i / j)) := opI fun i j _ _ _ _ _ hc q => by
  have h1 : (0 : Int) < j := hc.1
  have h2 : j < 1073741824 := hc.2
  exact floordiv_int (by omega) (by rw [Int.fdiv_eq_ediv_of_nonneg i (by omega)]; exact q) (.inl (PyProof.noPylong_small (by omega)))
/-- % by a positive divisor of any size -/
theorem op_mod : OpR X (binaryOp .Mod) (rI (fun _ j => 0 < j) fun i j => .int (i % j)) := opI fun i j _ _ _ _ _ hc q => by
  have h1 : (0 : Int) < j := hc
  exact mod_int' (by omega) (by rw [Int.fmod_eq_emod_of_nonneg i (by omega)]; exact q)
theorem op_pow : OpR X (binaryOp .Pow) (rI CPow fun i j => .int (i ^ j.toNat)) := opI fun _ _ _ _ _ _ _ hc q => pow_int_small hc.1 hc.2.1 hc.2.2 q
theorem unI {f : Value → Sem Value} {g : Int → Int}
    (rule : ∀ (i : Int) (t : Tok) (s : Shared) (Q : Value → Shared → Prop) (E : Value → Shared → Prop), Q (.int (g i) s.toks) { s with toks := s.toks + 1 } → wpAny (model X.prog X.w) X.A (f (.int i t)) Q E s) :
    UnR X f (rU fun i => .int (g i)) := by
  intro pins s σ H x v Q I rx h
  obtain ⟨i, rfl, q⟩ := h
  obtain ⟨t, rfl⟩ := rx
  exact rule i t s _ _ ⟨.int (g i), H, I.tok _, ⟨_, rfl⟩, q⟩
theorem un_neg : UnR X (unaryOp .USub) (rU fun i => .int (-i)) := unI fun _ _ _ _ _ q => neg_int q
/-! ### bools among ints: n += (a < b) -/
end

/-! ### comparisons -/
/-- the scalars that == tells apart as data does -/
def scal : V → V → Bool
  | .non, .non => true | .non, .int _ => true | .int _, .non => true | .non, .bl _ => true | .bl _, .non => true | .non, .str _ => true | .str _, .non => true
  | .int _, .int _ => true | .bl _, .bl _ => true | .str _, .str _ => true | .byt _, .byt _ => true
  | .int _, .str _ => true | .str _, .int _ => true | .bl _, .str _ => true | .str _, .bl _ => true
  | _, _ => false
def rEq : R2 := fun x y H Q => scal x y = true ∧ Q (.bl (decide (x = y))) H
def rNe : R2 := fun x y H Q => scal x y = true ∧ Q (.bl (!decide (x = y))) H

theorem dec_int {i j : Int} : decide (V.int i = V.int j) = (i == j) := by
  rw [Bool.eq_iff_iff]
  simp
theorem dec_bl {i j : Bool} : decide (V.bl i = V.bl j) = (i == j) := by
  rw [Bool.eq_iff_iff]
  simp
theorem dec_str {i j : Str} : decide (V.str i = V.str j) = (i == j) := by
  rw [Bool.eq_iff_iff]
  simp
theorem dec_byt {i j : Array UInt8} : decide (V.byt i = V.byt j) = (i.toList == j.toList) := by
  rw [Bool.eq_iff_iff]
  cases i
  cases j
  simp

section
variable {X : Cx} {a b c : Expr} {ta tb tc : TE} {pos : Pos}
theorem fin_bl {pins : List (Addr × Obj)} {σ : St} {H : Hp} {s : Shared} {Q : VK} {k k' : Bool} (I : Inv X pins σ H s) (q : Q (.bl k) H) (e : k = k') : EP X pins σ Q (.bool k') s := by
  subst e
  exact ⟨.bl k, H, I, rfl, q⟩
theorem op_eq : OpR X (compareOp .Eq) rEq := by
  intro pins s σ H x y v u Q I rx ry h
  obtain ⟨hs, q⟩ := h
  cases x with
  | non =>
    cases rx
    cases y with
    | non => cases ry; exact PySem.EqNone.eq_none_none (fin_bl I q (by simp))
    | bl j => cases ry; exact PySem.EqNone.eq_none_bool (fin_bl I q (by simp))
    | int j => obtain ⟨t', rfl⟩ := ry; exact PySem.EqNone.eq_none_int (fin_bl I q (by simp))
    | str j => obtain ⟨t', rfl⟩ := ry; exact PySem.EqNone.eq_none_str (fin_bl I q (by simp))
    | _ => exact absurd (show false = true from hs) Bool.false_ne_true
  | bl i =>
    cases rx
    cases y with
    | non => cases ry; exact PySem.EqNone.eq_bool_none (fin_bl I q (by simp))
    | bl j => cases ry; exact eq_bool (fin_bl I q dec_bl)
    | str j => obtain ⟨t', rfl⟩ := ry; exact PySem.EqMixed.eq_bool_str (fin_bl I q (by simp))
    | _ => exact absurd (show false = true from hs) Bool.false_ne_true
  | int i =>
    obtain ⟨t, rfl⟩ := rx
    cases y with
    | non => cases ry; exact PySem.EqNone.eq_int_none (fin_bl I q (by simp))
    | int j => obtain ⟨t', rfl⟩ := ry; exact eq_int (fin_bl I q dec_int)
    | str j => obtain ⟨t', rfl⟩ := ry; exact PySem.EqMixed.eq_int_str (fin_bl I q (by simp))
    | _ => exact absurd (show false = true from hs) Bool.false_ne_true
  | str i =>
    obtain ⟨t, rfl⟩ := rx
    cases y with
    | non => cases ry; exact PySem.EqNone.eq_str_none (fin_bl I q (by simp))
    | bl j => cases ry; exact PySem.EqMixed.eq_str_bool (fin_bl I q (by simp))
    | int j => obtain ⟨t', rfl⟩ := ry; exact PySem.EqMixed.eq_str_int (fin_bl I q (by simp))
    | str j => obtain ⟨t', rfl⟩ := ry; exact eq_str (fin_bl I q dec_str)
    | _ => exact absurd (show false = true from hs) Bool.false_ne_true
  | byt i =>
    obtain ⟨t, rfl⟩ := rx
    cases y with
    | byt j => obtain ⟨t', rfl⟩ := ry; exact PySem.W.eq_bytes (fin_bl I q dec_byt)
    | _ => exact absurd (show false = true from hs) Bool.false_ne_true
  | _ => cases y <;> exact absurd (show false = true from hs) Bool.false_ne_true
theorem op_ne : OpR X (compareOp .NotEq) rNe := by
  intro pins s σ H x y v u Q I rx ry h
  obtain ⟨hs, q⟩ := h
  cases x with
  | non =>
    cases rx
    cases y with
    | non => cases ry; exact PySem.EqNone.ne_none_none (fin_bl I q (by simp))
    | bl j => cases ry; exact PySem.EqNone.ne_none_bool (fin_bl I q (by simp))
    | int j => obtain ⟨t', rfl⟩ := ry; exact PySem.EqNone.ne_none_int (fin_bl I q (by simp))
    | str j => obtain ⟨t', rfl⟩ := ry; exact PySem.EqNone.ne_none_str (fin_bl I q (by simp))
    | _ => exact absurd (show false = true from hs) Bool.false_ne_true
  | bl i =>
    cases rx
    cases y with
    | non => cases ry; exact PySem.EqNone.ne_bool_none (fin_bl I q (by simp))
    | bl j => cases ry; exact ne_bool (fin_bl I q (congrArg not dec_bl))
    | str j => obtain ⟨t', rfl⟩ := ry; exact PySem.EqMixed.ne_bool_str (fin_bl I q (by simp))
    | _ => exact absurd (show false = true from hs) Bool.false_ne_true
  | int i =>
    obtain ⟨t, rfl⟩ := rx
    cases y with
    | non => cases ry; exact PySem.EqNone.ne_int_none (fin_bl I q (by simp))
    | int j => obtain ⟨t', rfl⟩ := ry; exact ne_int (fin_bl I q (congrArg not dec_int))
    | str j => obtain ⟨t', rfl⟩ := ry; exact PySem.EqMixed.ne_int_str (fin_bl I q (by simp))
    | _ => exact absurd (show false = true from hs) Bool.false_ne_true
  | str i =>
    obtain ⟨t, rfl⟩ := rx
    cases y with
    | non => cases ry; exact PySem.EqNone.ne_str_none (fin_bl I q (by simp))
    | bl j => cases ry; exact PySem.EqMixed.ne_str_bool (fin_bl I q (by simp))
    | int j => obtain ⟨t', rfl⟩ := ry; exact PySem.EqMixed.ne_str_int (fin_bl I q (by simp))
    | str j => obtain ⟨t', rfl⟩ := ry; exact ne_str (fin_bl I q (congrArg not dec_str))
    | _ => exact absurd (show false = true from hs) Bool.false_ne_true
  | byt i =>
    obtain ⟨t, rfl⟩ := rx
    cases y with
    | byt j => obtain ⟨t', rfl⟩ := ry; exact PySem.W.ne_bytes (fin_bl I q (congrArg not dec_byt))
    | _ => exact absurd (show false = true from hs) Bool.false_ne_true
  | _ => cases y <;> exact absurd (show false = true from hs) Bool.false_ne_true

theorem op_lt : OpR X (compareOp .Lt) (rI0 fun i j => .bl (decide (i < j))) := opB0 fun _ _ _ _ _ _ _ q => lt_int q
theorem op_le : OpR X (compareOp .LtE) (rI0 fun i j => .bl (decide (i ≤ j))) := opB0 fun _ _ _ _ _ _ _ q => le_int q
theorem op_ge : OpR X (compareOp .GtE) (rI0 fun i j => .bl (decide (j ≤ i))) := opB0 fun _ _ _ _ _ _ _ q => ge_int q
/-- is None, is not None: the right side a value none -/
theorem op_isN : OpR X (compareOp .Is) (fun x y H Q => y = .non ∧ Q (.bl (decide (x = .non))) H) := by
  intro pins s σ H x y v u Q I rx ry h
  obtain ⟨rfl, q⟩ := h
  cases ry
  refine is_none_gen (fin_bl I q ?_)
  cases x <;> first
    | (cases rx; rfl)
    | (obtain ⟨t, rfl⟩ := rx; rfl)
theorem nomark (b : Expr) {op : CmpOp} (h : op ≠ .In := by decide) (h2 : op ≠ .NotIn := by decide) : behindInMarks op b = false := by
  have e1 : (op == CmpOp.In) = false := by cases op <;> first | rfl | exact absurd rfl h
  have e2 : (op == CmpOp.NotIn) = false := by cases op <;> first | rfl | exact absurd rfl h2
  cases b <;> simp [behindInMarks, e1, e2]
/-- a comparison as a value; hm: nomark b, or (for in, not in) by with_unfolding_all rfl -/
theorem pe_cmpR {op : CmpOp} {r : R2} (ho : OpR X (compareOp op) r) (ha : PE X a ta) (hb : PE X b tb) (hm : behindInMarks op b = false) : PE X (.Compare a [op] [b] pos) (tOp r ta tb) := by
  intro pins s σ H Q I h
  exact wpAny_Compare1 (binT ha hb I h fun v u s2 x y H2 I2 rx ry q => ho pins s2 σ H2 x y v u Q I2 rx ry q) hm
/-- a reading of a value as a test -/
def tTest (t : TE) : TT := fun σ H Q => t σ H fun x H' => ∃ k, x = .bl k ∧ Q k H'
theorem pt_cmpR {op : CmpOp} {r : R2} (ho : OpR X (compareOp op) r) (ha : PE X a ta) (hb : PE X b tb) (hm : behindInMarks op b = false) : PT X (.Compare a [op] [b] pos) (tTest (tOp r ta tb)) := by
  intro pins s σ H Q I h
  refine wpAny_isTrue_Compare1 (thn (ha pins s σ H _ I h) fun v s1 ⟨x, H1, I1, r1, q1⟩ => thn (hb pins s1 σ H1 _ I1 q1) fun u s2 ⟨y, H2, I2, r2, q2⟩ =>
    thn (ho pins s2 σ H2 x y v u _ I2 r1 r2 q2) fun c s3 ⟨z, H3, I3, r3, k, e, q3⟩ => ?_) hm
  subst e
  cases r3
  exact wpAny_truthy_bool ⟨H3, I3, q3⟩
/-- a op1 b op2 c -/
def tChain (r r' : R2) (ta tb tc : TE) : TE := fun σ H Q => ta σ H fun x H1 => tb σ H1 fun y H2 => r x y H2 fun z H3 => ∃ k, z = .bl k ∧
  (if k = true then tc σ H3 fun w' H4 => r' y w' H4 Q else Q (.bl false) H3)
theorem pe_chain {op op' : CmpOp} {r r' : R2} (ho : OpR X (compareOp op) r) (ho' : OpR X (compareOp op') r') (ha : PE X a ta) (hb : PE X b tb) (hc : PE X c tc)
    (hm : lastMarks [op, op'] [b, c] = false := by with_unfolding_all rfl) : PE X (.Compare a [op, op'] [b, c] pos) (tChain r r' ta tb tc) := by
  intro pins s σ H Q I h
  refine Compare_chain (thn (ha pins s σ H _ I h) fun v s1 ⟨x, H1, I1, r1, q1⟩ => chain_link (thn (hb pins s1 σ H1 _ I1 q1) fun u s2 ⟨y, H2, I2, r2, q2⟩ =>
    thn (ho pins s2 σ H2 x y v u _ I2 r1 r2 q2) fun d s3 ⟨z, H3, I3, r3, k, e, q3⟩ => ?_)) hm
  subst e
  cases r3
  refine wpAny_truthy_bool ?_
  cases k with
  | false => exact ite_ff ⟨.bl false, H3, I3, rfl, q3⟩
  | true => exact ite_tt (chain_last (thn (hc pins s3 σ H3 _ I3 q3) fun w' s4 ⟨z', H4, I4, r4, q4⟩ => ho' pins s4 σ H4 y z' u w' Q I4 r2 r4 q4))
/-! ### truth -/
/-- a value's truth by the abstract heap -/
def TruV (K : PySem.W.Frag) (x : V) (H : Hp) (k : Bool) : Prop :=
  match x with
  | .non => k = false
  | .bl b => k = b
  | .int i => k = (i != 0)
  | .str y => y.length ≤ sizeLine ∧ k = ((y.length : Int) != 0)
  | .byt y => y.size ≤ sizeLine ∧ k = ((y.size : Int) != 0)
  | .ref p => (∃ xs, SqL K H p xs ∧ k = !xs.isEmpty) ∨ (∃ xs, SqT K H p xs ∧ k = !xs.isEmpty) ∨ ∃ kvs, H p = some (.dK kvs) ∧ k = !kvs.isEmpty
  | _ => False
theorem isEmpty_kv {κ : Type} {kvs : List (κ × V)} {vs : List (κ × Value)} (r : KV kvs vs) : (!vs.isEmpty) = !kvs.isEmpty := by
  cases r <;> rfl
theorem isEmpty_of {xs : List V} {its : List Value} (r : Vals xs its) : (!its.toArray.isEmpty) = !xs.isEmpty := by
  cases r <;> simp
theorem line63 : (sizeLine : Nat) < 2 ^ 63 := by rw [sizeLine_eq]; decide
theorem tru_ok : TruR X (fun x H Q => ∃ k, TruV X.K x H k ∧ Q k H) := by
  intro pins s σ H x v Q I rx h
  obtain ⟨k, e, q⟩ := h
  have hl := line63
  have hs : sizeLine = 16777216 := sizeLine_eq
  cases x with
  | non =>
    cases rx
    have e' : k = false := e
    subst e'
    exact truthy_none ⟨H, I, q⟩
  | bl b =>
    cases rx
    have e' : k = b := e
    subst e'
    exact wpAny_truthy_bool ⟨H, I, q⟩
  | int i =>
    obtain ⟨t, rfl⟩ := rx
    have e' : k = (i != 0) := e
    subst e'
    exact PySem.P.truthy_int ⟨H, I, q⟩
  | str y =>
    obtain ⟨t, rfl⟩ := rx
    obtain ⟨hy, e'⟩ : y.length ≤ sizeLine ∧ k = ((y.length : Int) != 0) := e
    subst e'
    exact PySem.P.truthy_str (by omega) ⟨H, I.tok _, q⟩
  | byt y =>
    obtain ⟨t, rfl⟩ := rx
    obtain ⟨hy, e'⟩ : y.size ≤ sizeLine ∧ k = ((y.size : Int) != 0) := e
    subst e'
    exact PySem.W.truthy_bytes (by omega) ⟨H, I.tok _, q⟩
  | ref p =>
    cases rx
    have e' : (∃ xs, SqL X.K H p xs ∧ k = !xs.isEmpty) ∨ (∃ xs, SqT X.K H p xs ∧ k = !xs.isEmpty) ∨ ∃ kvs, H p = some (.dK kvs) ∧ k = !kvs.isEmpty := e
    rcases e' with ⟨xs, hx, e'⟩ | ⟨xs, hx, e'⟩ | ⟨kvs, hx, e'⟩
    · subst e'
      obtain ⟨its, r, pl, hz⟩ := I.list hx
      have hlen := r.length
      exact wpAny_truthy_list pl.isList (by simp only [List.size_toArray]; omega) ⟨H, I.tok _, by rw [isEmpty_of r]; exact q⟩
    · subst e'
      obtain ⟨its, r, pl, hz⟩ := I.tuple hx
      have hlen := r.length
      exact truthy_tuple pl (by simp only [List.size_toArray]; omega) ⟨H, I.tok _, by rw [isEmpty_of r]; exact q⟩
    · subst e'
      obtain ⟨hz, hS, vs, r, m⟩ : kvs.length ≤ sizeLine ∧ (p == sysModules) = false ∧ ∃ vs, KV kvs vs ∧ s.heap.DictOf (mixKind X.prog X.w) p vs := I.hok p _ hx
      have hlen : kvs.length = vs.length := Paired.length r
      exact wpAny_truthy_dict hS m (by omega) ⟨H, I.tok _, by rw [isEmpty_kv r]; exact q⟩
  | _ => exact (show False from e).elim
/-- any expression whose test is its value's truth (a name, a call, a subscript, a field ..: he by fun _ => rfl) -/
theorem pt_truth (ha : PE X a ta) (he : ∀ whole, isTrue a X.env whole = (do let v ← whole; standAt a.pos; holding [v] (truthy v))) :
    PT X a (fun σ H Q => ta σ H fun x H' => ∃ k, TruV X.K x H' k ∧ Q k H') := by
  intro pins s σ H Q I h
  exact isTrue_plain (thn (ha pins s σ H _ I h) fun v s1 ⟨x, H1, I1, r1, q1⟩ => tru_ok pins s1 σ H1 x v Q I1 r1 q1) (he _)

/-! ### strs and bytes -/
/-! ### scalar builtins, by CallR -/
theorem vals1 {x : V} {us : List Value} (r : Vals [x] us) : ∃ u, us = [u] ∧ RelV x u := by
  cases r with
  | cons r1 r2 => cases r2; exact ⟨_, rfl, r1⟩
theorem vals2 {x y : V} {us : List Value} (r : Vals [x, y] us) : ∃ u w', us = [u, w'] ∧ RelV x u ∧ RelV y w' := by
  cases r with
  | cons r1 r2 =>
    cases r2 with
    | cons r3 r4 => cases r4; exact ⟨_, _, rfl, r1, r3⟩
theorem call_max2 (hc : X.calm = true) : CallR X (.builtin "max") (fun xs H Q => ∃ i j, xs = [.int i, .int j] ∧ Q (.int (if j > i then j else i)) H) := by
  intro pins s σ H xs us Q I r h
  obtain ⟨i, j, rfl, q⟩ := h
  obtain ⟨u, w', rfl, ⟨t, rfl⟩, ⟨t', rfl⟩⟩ := vals2 r
  refine max_two_ints (I.ok.hd hc) fun h' tk k => ⟨_, H, I.kept k, ?_, q⟩
  by_cases hj : j > i
  · rw [if_pos hj, if_pos hj]; exact ⟨_, rfl⟩
  · rw [if_neg hj, if_neg hj]; exact ⟨_, rfl⟩
theorem call_min2 (hc : X.calm = true) : CallR X (.builtin "min") (fun xs H Q => ∃ i j, xs = [.int i, .int j] ∧ Q (.int (if j < i then j else i)) H) := by
  intro pins s σ H xs us Q I r h
  obtain ⟨i, j, rfl, q⟩ := h
  obtain ⟨u, w', rfl, ⟨t, rfl⟩, ⟨t', rfl⟩⟩ := vals2 r
  refine min_two_ints (I.ok.hd hc) fun h' tk k => ⟨_, H, I.kept k, ?_, q⟩
  by_cases hj : j < i
  · rw [if_pos hj, if_pos hj]; exact ⟨_, rfl⟩
  · rw [if_neg hj, if_neg hj]; exact ⟨_, rfl⟩
theorem call_int1 : CallR X (.type "int") (fun xs H Q => (∃ i, xs = [.int i] ∧ Q (.int i) H) ∨ ∃ k, xs = [.bl k] ∧ Q (.int (if k then 1 else 0)) H) := by
  intro pins s σ H xs us Q I r h
  rcases h with ⟨i, rfl, q⟩ | ⟨k, rfl, q⟩
  · obtain ⟨u, rfl, t, rfl⟩ := vals1 r
    exact call_int_int ⟨.int i, H, I, ⟨_, rfl⟩, q⟩
  · obtain ⟨u, rfl, r1⟩ := vals1 r
    cases r1
    exact call_int_bool ⟨.int (if k then 1 else 0), H, I.tok _, ⟨_, rfl⟩, q⟩
end
end L2

namespace L2
open PySem PySem.Spec PyProof.Rows

/-! ### an instance, its attributes a map -/
structure ObjM (h : Heap) (x dx C : Addr) (mA : Str → Option Value) : Prop where
  obj : h.get? x = some (PySem.W.instObj C dx)
  ns : h.Ns1 dx mA
  ne : dx ≠ x

theorem lookIn_ns {h : Heap} {dx : Addr} {mA : Str → Option Value} (n : h.Ns1 dx mA) : ∃ od, h.get? dx = some od ∧ ∀ name, PySem.W.lookIn name od = some (mA name) := by
  obtain ⟨o, es, ep, ho, hd, hk, _, hm⟩ := n
  refine ⟨o, ho, fun name => ?_⟩
  have e := hm name
  unfold nsFind findBy at e
  rw [← Array.find?_toList] at e
  unfold PySem.W.lookIn
  rw [hd]
  dsimp only
  split
  · rename_i y q
    rw [q] at e
    exact congrArg some e
  · rename_i q
    rw [q] at e
    have a : es.toList.any (·.refKey) = false := by
      rw [List.any_eq_false]
      intro y hy
      obtain ⟨z, t, hkey⟩ := hk y (Array.mem_toList_iff.mp hy)
      simp [DictEntry.refKey, hkey]
    have a' : ¬ es.toList.any (·.refKey) = true := by rw [a]; exact Bool.false_ne_true
    rw [if_neg a']
    exact congrArg some e

theorem ObjM.look {h : Heap} {x dx C : Addr} {mA : Str → Option Value} (I : ObjM h x dx C mA) : ∃ od, PySem.W.InstAt h x (PySem.W.instObj C dx) C (some od) ∧ ∀ name, PySem.W.lookIn name od = some (mA name) :=
  let ⟨od, ho, hl⟩ := lookIn_ns I.ns
  ⟨od, ⟨I.obj, rfl, rfl, ho⟩, hl⟩

section
variable {prog : Program} {w : World} {A : Around} {E : Value → Shared → Prop} {s : Shared} {K : PySem.W.Frag} {x dx C f : Addr} {mA : Str → Option Value} {name : Str} {v : Value}

end

/-! ### the attributes as a list of pairs -/
theorem RelO.none_of {o : Option Value} (r : RelO none o) : o = none := by
  cases o with
  | none => rfl
  | some u => exact (show False from r).elim
section
variable {P : Program} {w : World} {H H' : Hp} {h h' : Heap} {a C dx : Addr} {fs fs' : List (Str × V)}
theorem ins_get (hok : HOk P w H h) (e : H a = some (.ins C dx fs)) : ∃ mA, ObjM h a dx C mA ∧ (∀ f, RelO (fs.lookup f) (mA f)) ∧ PySem.Within mA (fs.map (·.1)) ∧ fs.length ≤ 1000 ∧ H dx = some (.own a) := by
  obtain ⟨d, z, ne, ob, mA, n, r, q⟩ := (show ObjOk P w H h a (.ins C dx fs) from hok a _ e)
  exact ⟨mA, ⟨ob, n, ne⟩, r, q, z, d⟩
end

/-! ### what of the text a class must have -/
structure Cls (K : PySem.W.Frag) (C : Addr) : Prop where
  pg : PySem.W.plainGet K C Str.empty = true
  hd : PySem.W.hasDictIn K C = true
  po : PySem.W.plainOver K C = true
  sa : PySem.W.findIn K (.ref C) "__setattr__" = some (some (.builtin "object.__setattr__"))
theorem Cls.get {K : PySem.W.Frag} {C : Addr} (c : Cls K C) (f : Str) : PySem.W.plainGet K C f = true := c.pg
/-- a constant of the class -/
structure Con (K : PySem.W.Frag) (C : Addr) (f : Str) (v : V) (u : Value) : Prop where
  at_ : PySem.W.findIn K (.ref C) f = some (some u)
  rel : RelV v u
  get : PySem.W.specialIn K u "__get__" = some none
  cp : PySem.W.copiedNames.contains f = false
/-- a method: a plain def of the class or of one above it -/
structure Meth (K : PySem.W.Frag) (C : Addr) (m : Str) (f : Addr) : Prop where
  at_ : PySem.W.findIn K (.ref C) m = some (some (.ref f))
  fn : PySem.W.isFn K (.ref f) = true
  kp : PySem.W.keepIn K (.ref f) = true

section
variable {X : Cx} {pins : List (Addr × Obj)} {σ : St} {H : Hp} {s : Shared} {a C dx : Addr} {fs : List (Str × V)} {f : Str} {v : V} {A : Around} {E : Value → Shared → Prop}

end

/-! ### readings and rules -/
section
variable {X : Cx} {o e value : Expr} {f : Str} {pos pos' tpos : Pos} {ta tv : TE}
end

/-! ### isinstance -/
section
variable {X : Cx} {pins : List (Addr × Obj)} {σ : St} {H : Hp} {s : Shared} {A : Around} {E : Value → Shared → Prop} {Q : Value → Shared → Prop} {c : Value} {b : Bool}
/-- the type of a value, as the fragment's deciders take it; for an instance its class -/
inductive TyOf (K : PySem.W.Frag) (H : Hp) : V → Value → Prop where
  | non : TyOf K H .non (.type "NoneType")
  | bl (x : Bool) : TyOf K H (.bl x) (.type "bool")
  | int (i : Int) : TyOf K H (.int i) (.type "int")
  | str (x : Str) : TyOf K H (.str x) (.type "str")
  | flt (x : UInt64) : TyOf K H (.flt x) (.type "float")
  | lst {a : Addr} {xs : List V} (e : H a = some (.lst xs)) : TyOf K H (.ref a) (.type "list")
  | frz {a : Addr} {o : Obj} {xs : List V} (e : H a = some (.frz o (.lst xs))) : TyOf K H (.ref a) (.type "list")
  | tup {a : Addr} {xs : List V} (e : H a = some (.tup xs)) : TyOf K H (.ref a) (.type "tuple")
  | dK {a : Addr} {kvs : List (Key × V)} (e : H a = some (.dK kvs)) : TyOf K H (.ref a) (.type "dict")
  | dT {a : Addr} {kvs : List (List Key × V)} (e : H a = some (.dT kvs)) : TyOf K H (.ref a) (.type "dict")
  | ins {a C dx : Addr} {fs : List (Str × V)} (e : H a = some (.ins C dx fs)) (cl : Cls K C) (ha : PySem.W.findIn K (.ref C) "__class__" = some (some (.builtin "object.__class__")))
      (hn : PySem.W.specialIn K (.builtin "object.__class__") "__get__" = some (some (.builtin "getset_descriptor.__get__"))) (htk : PySem.W.takesIn K (.builtin "object.__class__") = some true)
      (hm : PySem.W.mroIn K C (.type "object") = some true) : TyOf K H (.ref a) (.ref C)
/-- isinstance(x, c) for one class c, a built-in or an own one: kitOne's answer -/
theorem isinst_ok {x : V} {u t : Value} (I : Inv X pins σ H s) (rx : RelV x u) (ty : TyOf X.K H x t) (e : PySem.W.kitOne X.K t c = some b) (h : ∀ tk, Q (.bool b) { s with toks := tk }) :
    wpAny (model X.prog X.w) A (call (.builtin "isinstance") [u, c]) Q E s := by
  cases ty with
  | non => cases (show u = Value.none from rx); exact PySem.W.kia_one PySem.W.kitx_none I.kIn True.intro e (fun z => nomatch z) h
  | bl y => cases (show u = Value.bool y from rx); exact PySem.W.kia_one PySem.W.kitx_bool I.kIn True.intro e (fun z => nomatch z) h
  | int i => obtain ⟨t, q⟩ := (show ∃ t, u = Value.int i t from rx); cases q; exact PySem.W.kia_one PySem.W.kitx_int I.kIn True.intro e (fun z => nomatch z) h
  | str y => obtain ⟨t, q⟩ := (show ∃ t, u = Value.str y t from rx); cases q; exact PySem.W.kia_one PySem.W.kitx_str I.kIn True.intro e (fun z => nomatch z) h
  | flt y => obtain ⟨t, q⟩ := (show ∃ t, u = Value.float y t from rx); cases q; exact PySem.W.kia_one PySem.W.kitx_float I.kIn True.intro e (fun z => nomatch z) h
  | @lst a xs ea =>
    cases (show u = Value.ref a from rx)
    obtain ⟨_, _, n, _, h1⟩ := (show ObjOk X.prog X.w H s.heap a (.lst xs) from I.hok a _ ea)
    exact PySem.W.kia_one PySem.W.kitx_list I.kIn ⟨_, h1, rfl⟩ e (fun z => nomatch z) h
  | @frz a ob xs ea =>
    cases (show u = Value.ref a from rx)
    obtain ⟨_, _, _, n, _, h1⟩ := (show ObjOk X.prog X.w H s.heap a (.frz ob (.lst xs)) from I.hok a _ ea)
    exact PySem.W.kia_one PySem.W.kitx_list I.kIn ⟨_, h1, rfl⟩ e (fun z => nomatch z) h
  | @tup a xs ea =>
    cases (show u = Value.ref a from rx)
    obtain ⟨_, _, _, p⟩ := (show ObjOk X.prog X.w H s.heap a (.tup xs) from I.hok a _ ea)
    obtain ⟨o, h1, h2, _⟩ := p
    exact PySem.W.kia_one PySem.W.kitx_tuple I.kIn ⟨o, h1, h2⟩ e (fun z => nomatch z) h
  | @dK a kvs ea =>
    cases (show u = Value.ref a from rx)
    obtain ⟨_, _, vs, _, p⟩ := (show ObjOk X.prog X.w H s.heap a (.dK kvs) from I.hok a _ ea)
    obtain ⟨o, es, ep, h1, h2, _⟩ := p
    exact PySem.W.kia_one PySem.W.kitx_dict I.kIn ⟨o, h1, h2.1⟩ e (fun z => nomatch z) h
  | @dT a kvs ea =>
    cases (show u = Value.ref a from rx)
    obtain ⟨_, _, xs, _, o, es, ep, h1, h2, _⟩ := (show ObjOk X.prog X.w H s.heap a (.dT kvs) from I.hok a _ ea)
    exact PySem.W.kia_one PySem.W.kitx_dict I.kIn ⟨o, h1, h2.1⟩ e (fun z => nomatch z) h
  | @ins a C dx fs ea cl ha hn htk hm =>
    cases (show u = Value.ref a from rx)
    obtain ⟨mA, O, _⟩ := ins_get I.hok ea
    obtain ⟨od, J, _⟩ := O.look
    exact PySem.W.kia_one (PySem.W.kitx_own (cl.get _) cl.hd ha hn htk hm) I.kIn J e (fun z => nomatch z) h
end
end L2

namespace L2
open PySem PySem.Spec PyProof.Rows

/-! ### room -/
structure Room (k : Nat) (A : Around) : Prop where
  hd : A.handled = none
  dp : A.depth + 3 * k + 5 < recursionLimit
  un : A.units + 16 * k + 200 < cLine
theorem Room.mono {j k : Nat} {A : Around} (r : Room k A) (h : j ≤ k) : Room j A := ⟨r.hd, by have := r.dp; omega, by have := r.un; omega⟩
theorem Room.deeper {k : Nat} {A : Around} (r : Room (k + 1) A) (env : Env) : Room k (A.deeper env) :=
  ⟨r.hd, by have := r.dp; show A.depth + 1 + 3 * k + 5 < _; omega, by have := r.un; show A.units + 3 + 16 * k + 200 < _; omega⟩
theorem Room.in1 {k : Nat} {A : Around} (r : Room (k + 1) A) : Room k A.in1 :=
  ⟨r.hd, by have := r.dp; show A.depth + 3 * k + 5 < _; omega, by have := r.un; show A.units + 1 + 16 * k + 200 < _; omega⟩
theorem Room.depth {k : Nat} {A : Around} (r : Room k A) : A.depth < recursionLimit := by have := r.dp; omega
theorem Room.units {k : Nat} {A : Around} (r : Room k A) : A.units + 64 < cLine := by have := r.un; omega
/-! ### argument lists and displays -/
def tNil : TA := fun _ H Q => Q [] H
def tCons (ta : TE) (tr : TA) : TA := fun σ H Q => ta σ H fun x H1 => tr σ H1 fun xs H2 => Q (x :: xs) H2
section
variable {X : Cx} {e : Expr} {es : List Expr} {te : TE} {t : TA} {pos : Pos}
theorem pa_nil : PA X [] tNil := fun _ _ _ _ H Q I h => Calls.spliced_nil ⟨[], H, I, .nil, h⟩
theorem pa_cons (ha : PE X e te) (hr : PA X es t) (hs : starEach (e :: es) X.env = (false, eval e X.env) :: starEach es X.env := by rfl) : PA X (e :: es) (tCons te t) := by
  intro pos pins s σ H Q I h
  rw [hs]
  show wpAny _ _ (spliced ((false, eval e X.env) :: backTo pos (starEach es X.env))) _ _ s
  refine Calls.spliced_cons (thn (ha pins s σ H _ I h) fun u s1 ⟨x, H1, I1, r1, q1⟩ => ?_)
  exact thn (hr pos pins s1 σ H1 _ I1 q1) fun us s2 ⟨xs, H2, I2, r2, q2⟩ => ⟨x :: xs, H2, I2, .cons r1 r2, q2⟩

/-- a tuple, a list of written items -/
def tTup (t : TA) : TE := fun σ H Q => t σ H fun xs H1 => xs.length ≤ sizeLine ∧ ∀ p, H1 p = none → Q (.ref p) (upd H1 p (.tup xs))
def tLst (t : TA) : TE := fun σ H Q => t σ H fun xs H1 => xs.length ≤ sizeLine ∧ ∀ p, H1 p = none → Q (.ref p) (upd H1 p (.lst xs))
theorem pe_tup {x1} (h : PA X es t) : PE X (.Tuple es x1 pos) (tTup t) := by
  intro pins s σ H Q I hq
  refine wpAny_Tuple_spliced (thn (h pos pins s σ H _ I hq) fun us s1 ⟨xs, H1, I1, r, z, q⟩ => ⟨by rw [← r.length]; exact z, ?_⟩)
  have hf : H1 s1.heap.objs.size = none := I1.hok.fresh (Nat.le_refl _)
  refine ⟨.ref s1.heap.objs.size, upd H1 s1.heap.objs.size (.tup xs), I1.laid (t' := s1.toks) (fun b u e => Heap.get?_push_of_some _ e) (Nat.le_refl _) ?_, rfl, q _ hf⟩
  exact ⟨z, us, r, ⟨_, Heap.get?_push_size _ rfl, rfl, _, rfl⟩⟩
theorem pe_lst (h : PA X es t) : PE X (.List es pos) (tLst t) := by
  intro pins s σ H Q I hq
  refine wpAny_List_spliced (thn (h pos pins s σ H _ I hq) fun us s1 ⟨xs, H1, I1, r, z, q⟩ => ⟨by rw [← r.length]; exact z, ?_⟩)
  have hf : H1 s1.heap.objs.size = none := I1.hok.fresh (Nat.le_refl _)
  refine ⟨.ref s1.heap.objs.size, upd H1 s1.heap.objs.size (.lst xs), I1.laid (t' := s1.toks) (fun b u e => Heap.get?_push_of_some _ e) (Nat.le_refl _) ?_, rfl, q _ hf⟩
  exact ⟨z, us, 0, r, Heap.get?_push_size _ rfl⟩
end

/-! ### what a def promises -/
/-- a def's promise: the bound arguments in the parameters' order, the heap, the wanted end, the wanted exception -/
abbrev Sp := List V → Hp → VK → XK → Prop
/-- how an exception lies behind a call (file 08 gives it): the callers' frames, abstract heap and state ahead of the call, the wish, the exception, the state -/
abbrev CXT := List Env → Hp → Shared → XK → Value → Shared → Prop

/-- the state at a call -/
structure Env0 (P : Program) (w : World) (K : PySem.W.Frag) (mg : Str → Option Value) (base : Heap) (A : Around) (outer : List Env) (s : Shared) (H : Hp) : Prop where
  frames : A.frames = some outer
  mod : Mod K mg base
  bs : ∀ b o, base.get? b = some o → s.heap.get? b = some o ∧ H b = none
  bsz : base.objs.size ≤ s.heap.objs.size
  funs : s.heap.FunFrames base outer
  frf : ∀ b ∈ frs outer, H b = none
  hok : HOk P w H s.heap
  bare : AllBare s.gens
/-- a call's end -/
def CE (outer : List Env) (P : Program) (w : World) (H : Hp) (s : Shared) (Q : VK) (u : Value) (s' : Shared) : Prop :=
  ∃ v H', s'.os = s.os ∧ AllBare s'.gens ∧ Un (frs outer) [] H H' s.heap s'.heap ∧ HOk P w H' s'.heap ∧ RelV v u ∧ Q v H'
def CR (CX : CXT) (outer : List Env) (P : Program) (w : World) (H : Hp) (s : Shared) (Q : VK) (E : XK) (r : Result) (s' : Shared) : Prop :=
  match r with
  | .ok (.ret u) => CE outer P w H s Q u s'
  | .ok _ => False
  | .error e => CX outer H s E e s'
structure FnOk (P : Program) (w : World) (K : PySem.W.Frag) (mg : Str → Option Value) (base : Heap) (CX : CXT) (k : Nat) (f : Addr) (fd : FuncData) (ps : List Str) (sp : Sp) : Prop where
  len : ∀ vs H Q E, sp vs H Q E → vs.length = ps.length
  run : ∀ (A : Around) (outer : List Env) (s : Shared) (H : Hp) (args : Args) (us : List Value) (vs : List V) (Q : VK) (E : XK), Room k A → Env0 P w K mg base A outer s H → BindsTo s fd args (ps.zip us) → Vals vs us → sp vs H Q E →
    codeAny (model P w) A (.call (.ref f) args) (CR CX outer P w H s Q E) s
theorem FnOk.mono {P : Program} {w : World} {K : PySem.W.Frag} {mg : Str → Option Value} {base : Heap} {CX : CXT} {j k : Nat} {f : Addr} {fd : FuncData} {ps : List Str} {sp : Sp} (F : FnOk P w K mg base CX j f fd ps sp) (h : j ≤ k) :
    FnOk P w K mg base CX k f fd ps sp := ⟨F.len, fun A outer s H args us vs Q E hr => F.run A outer s H args us vs Q E (hr.mono h)⟩
/-- a weaker promise -/
theorem FnOk.imp {P : Program} {w : World} {K : PySem.W.Frag} {mg : Str → Option Value} {base : Heap} {CX : CXT} {k : Nat} {f : Addr} {fd : FuncData} {ps : List Str} {sp sp' : Sp} (F : FnOk P w K mg base CX k f fd ps sp)
    (h : ∀ vs H Q E, sp' vs H Q E → sp vs H Q E) : FnOk P w K mg base CX k f fd ps sp' :=
  ⟨fun vs H Q E q => F.len vs H Q E (h _ _ _ _ q), fun A outer s H args us vs Q E hr he hb hv hs => F.run A outer s H args us vs Q E hr he hb hv (h _ _ _ _ hs)⟩

theorem Env0.in1 {P : Program} {w : World} {K : PySem.W.Frag} {mg : Str → Option Value} {base : Heap} {A : Around} {outer : List Env} {s : Shared} {H : Hp} (e : Env0 P w K mg base A outer s H) :
    Env0 P w K mg base A.in1 outer s H := ⟨e.frames, e.mod, e.bs, e.bsz, e.funs, e.frf, e.hok, e.bare⟩

section
variable {X : Cx} {pins : List (Addr × Obj)} {σ : St} {H : Hp} {s s' : Shared}
/-- from a body: what a callee wants -/
theorem Inv.env0 (I : Inv X pins σ H s) : Env0 X.prog X.w X.K X.mg X.base X.A X.stack s H :=
  ⟨I.ok.frames, I.ok.mod, I.bs, Nat.le_trans I.ok.bsz I.sz, I.stack, I.stkFree, I.hok, I.bare⟩
/-- behind a call -/
theorem Inv.after {Q : VK} {u : Value} (I : Inv X pins σ H s) (h : CE X.stack X.prog X.w H s Q u s') : EP X pins σ Q u s' := by
  obtain ⟨v, H', os, bare, un, hok, r, q⟩ := h
  obtain ⟨hh, g, d, t, os'⟩ := s'
  obtain rfl : os' = s.os := os
  exact ⟨v, H', I.call (h' := hh) (g' := g) (d' := d) (t' := t) (ch := []) un hok bare (fun b z => absurd z (by simp)), r, q⟩
end

/-! ### calls -/
/-- f(..): the written arguments, then the defaults dvs; E: what is wanted of an exception -/
def tCall (sp : Sp) (dvs : List V) (E : XK) (t : TA) : TE := fun σ H Q => t σ H fun vs H1 => sp (vs ++ dvs) H1 Q E
/-- how the parameters are bound: us the positional arguments, kw the keywords' values by name, ds the defaults that fill up -/
def Binds (K : PySem.W.Frag) (fd : FuncData) (ps : List Str) (ds : List Value) : Prop :=
  ∀ (s : Shared) (us : List Value), K.In s.heap → (us ++ ds).length = ps.length → BindsTo s fd ⟨us, []⟩ (ps.zip (us ++ ds))
/-- every parameter is given -/
theorem Binds.all {K : PySem.W.Frag} {fd : FuncData} {ps : List Str} (h : ∀ us : List Value, us.length = ps.length → bindArgs fd ⟨us, []⟩ = pure (ps.zip us)) : Binds K fd ps [] := fun s us _ hl => by
  rw [List.append_nil] at hl ⊢
  exact .of_eq (h us hl)

/-- an exception of a callee reaches what this body wants of exceptions -/
def Passes (CX : CXT) (X : Cx) (E : XK) : Prop := ∀ (pins : List (Addr × Obj)) (σ : St) (H : Hp) (s : Shared) (e : Value) (s' : Shared), Inv X pins σ H s → CX X.stack H s E e s' → X.xe e s'

section
variable {X : Cx} {CX : CXT} {k : Nat} {f C : Addr} {fd : FuncData} {ps : List Str} {sp : Sp} {dvs : List V} {ds : List Value} {E : XK} {x m : Str} {p pos apos : Pos} {e o : Expr} {es : List Expr} {ta : TE} {t : TA}

/-- the callee runs -/
theorem run_fn {pins : List (Addr × Obj)} {σ : St} {H : Hp} {s : Shared} {Q : VK} {us : List Value} {vs : List V} (F : FnOk X.prog X.w X.K X.mg X.base CX k f fd ps sp) (hr : Room k X.A) (hb : Binds X.K fd ps ds) (hd : Vals dvs ds) (hx : Passes CX X E)
    (I : Inv X pins σ H s) (r : Vals vs us) (h : sp (vs ++ dvs) H Q E) : wpAny (model X.prog X.w) X.A (call (.ref f) us) (EP X pins σ Q) X.xe s := by
  have r2 : Vals (vs ++ dvs) (us ++ ds) := r.append hd
  have hl : (us ++ ds).length = ps.length := by rw [← r2.length]; exact F.len _ _ _ _ h
  refine wpAny_call (codeAny_mono (F.run X.A X.stack s H ⟨us, []⟩ (us ++ ds) (vs ++ dvs) Q E hr I.env0 (hb s us I.kIn hl) r2 h) fun r s' hq => ?_)
  cases r with
  | error e => exact hx pins σ H s e s' I hq
  | ok fl =>
    cases fl with
    | ret u => exact I.after hq
    | next => exact False.elim hq
    | brk => exact False.elim hq
    | cont => exact False.elim hq

theorem pe_call (F : FnOk X.prog X.w X.K X.mg X.base CX k f fd ps sp) (hr : Room k X.A) (hg : Gl X x) (hm : X.mg x = some (.ref f)) (hk : PySem.W.keepIn X.K (.ref f) = true) (hb : Binds X.K fd ps ds) (hd : Vals dvs ds) (hx : Passes CX X E)
    (ha : PA X (e :: es) t) (hdb : (x == ("__debug__" : Str)) = false := by decide) (he : starEach (e :: es) X.env = (false, eval e X.env) :: starEach es X.env := by rfl) (hpl : (backTo pos (starEach es X.env)).any (·.1) = false := by rfl) :
    PE X (.Call (.Name x p) (e :: es) [] pos) (tCall sp dvs E t) := by
  intro pins s σ H Q I h
  refine wpAny_Call_Name_kw (ld_glob I hg hm ?_ hdb)
  refine PySem.W.callWith_K (h₀ := X.base) I.ok.mod.kin hk (thn (ha pos pins s σ H _ I h) fun us s1 ⟨vs, H1, I1, r, q⟩ => ⟨I1.kIn, ?_⟩) he hpl
  exact run_fn F hr hb hd hx I1 r q
/-- what a class must have to be made -/
structure Mk (K : PySem.W.Frag) (C f : Addr) : Prop where
  makes : PySem.W.makesIn K C = true
  init : PySem.W.findIn K (.ref C) "__init__" = some (some (.ref f))
  fn : PySem.W.isFn K (.ref f) = true
  kp : PySem.W.keepIn K (.ref C) = true

end

/-! ### keywords -/
section
variable {X : Cx} {CX : CXT} {k : Nat} {f C : Addr} {fd : FuncData} {ps ks : List Str} {sp : Sp} {E : XK} {x m : Str} {p pos apos kpos : Pos} {e o : Expr} {es : List Expr} {kws : List Keyword} {te ta : TE} {t tk : TA} {nm : Option Str}
/-- how a call with keywords binds: g puts the positional values us and the keywords' values ws (names ks) in the parameters' order, defaults among them -/
structure KBinds (K : PySem.W.Frag) (fd : FuncData) (ps ks : List Str) (g : List Value → List Value → List Value) (gV : List V → List V → List V) : Prop where
  to : ∀ (s : Shared) (us ws : List Value), K.In s.heap → (g us ws).length = ps.length → BindsTo s fd ⟨us, ks.zip ws⟩ (ps.zip (g us ws))
  rel : ∀ {vs : List V} {us : List Value} {zs : List V} {ws : List Value}, Vals vs us → Vals zs ws → Vals (gV vs zs) (g us ws)
variable {g : List Value → List Value → List Value} {gV : List V → List V → List V}
end

/-! ### a def's body keeps its promise -/
/-- names: the parameters first -/
structure FnScope (N P : List Str) (sc : Scope) : Prop where
  kind : sc.kind = .function
  co : sc.isCoroutine = false
  gen : sc.isGenerator = false
  nd : N.Nodup
  pre : N.take P.length = P
  par : ∀ x ∈ P, sc.names.lookup x = some .local ∨ sc.names.lookup x = some .cell
  nofree : ∀ y ∈ sc.names, y.2 ≠ .free

theorem bindL_out {kindOf : Str → Option NameKind} {x : Str} : ∀ {binds : List (Str × Value)} {m : Str → Option Value}, (∀ v, (x, v) ∉ binds) → bindL kindOf binds m x = m x
  | [], _, _ => rfl
  | (n, v) :: r, m, h => by
    unfold bindL
    rw [bindL_out fun w hw => h w (List.mem_cons_of_mem _ hw)]
    split
    · have : x ≠ n := by rintro rfl; exact h v List.mem_cons_self
      simp [this]
    · rfl
theorem bindC_out {kindOf : Str → Option NameKind} {x : Str} : ∀ {binds : List (Str × Value)} {m : Str → Option Value}, (∀ v, (x, v) ∉ binds) → bindC kindOf binds m x = m x
  | [], _, _ => rfl
  | (n, v) :: r, m, h => by
    unfold bindC
    rw [bindC_out fun w hw => h w (List.mem_cons_of_mem _ hw)]
    split
    · rfl
    · have : x ≠ n := by rintro rfl; exact h v List.mem_cons_self
      simp [this]
theorem bindL_get {kindOf : Str → Option NameKind} {x : Str} {v : Value} : ∀ {P : List Str} {vs : List Value} {i : Nat} {m : Str → Option Value}, P.Nodup → P[i]? = some x → vs[i]? = some v → kindOf x = some .local →
    bindL kindOf (P.zip vs) m x = some v
  | [], _, _, _, _, h, _, _ => by simp at h
  | _ :: _, [], _, _, _, _, h, _ => by simp at h
  | p :: P, w :: vs, 0, m, nd, h1, h2, hk => by
    simp at h1 h2; subst h1; subst h2
    show bindL kindOf ((p, w) :: P.zip vs) m p = _
    unfold bindL
    rw [bindL_out fun v hv => (List.nodup_cons.mp nd).1 (List.of_mem_zip hv).1, if_pos hk]
    simp
  | p :: P, w :: vs, i + 1, m, nd, h1, h2, hk => by
    show bindL kindOf ((p, w) :: P.zip vs) m x = _
    unfold bindL
    exact bindL_get (i := i) (List.nodup_cons.mp nd).2 (by simpa using h1) (by simpa using h2) hk
theorem bindC_get {kindOf : Str → Option NameKind} {x : Str} {v : Value} : ∀ {P : List Str} {vs : List Value} {i : Nat} {m : Str → Option Value}, P.Nodup → P[i]? = some x → vs[i]? = some v → kindOf x ≠ some .local →
    bindC kindOf (P.zip vs) m x = some v
  | [], _, _, _, _, h, _, _ => by simp at h
  | _ :: _, [], _, _, _, _, h, _ => by simp at h
  | p :: P, w :: vs, 0, m, nd, h1, h2, hk => by
    simp at h1 h2; subst h1; subst h2
    show bindC kindOf ((p, w) :: P.zip vs) m p = _
    unfold bindC
    rw [bindC_out fun v hv => (List.nodup_cons.mp nd).1 (List.of_mem_zip hv).1, if_neg hk]
    simp
  | p :: P, w :: vs, i + 1, m, nd, h1, h2, hk => by
    show bindC kindOf ((p, w) :: P.zip vs) m x = _
    unfold bindC
    exact bindC_get (i := i) (List.nodup_cons.mp nd).2 (by simpa using h1) (by simpa using h2) hk

/-- the names' values at the entry -/
def start (N : List Str) (vs : List V) : St := vs.map some ++ List.replicate (N.length - vs.length) none

/-- the context of a def's body, at its entry; an exception leaves the frame, then lies as CX says -/
def cxOf (CX : CXT) (P : Program) (w : World) (K : PySem.W.Frag) (mg : Str → Option Value) (base : Heap) (N : List Str) (qual : Str) (scope : Scope) (f : Addr) (cd : Value) (A : Around) (outer : List Env) (s : Shared) (H : Hp) (E : XK) : Cx where
  prog := P
  w := w
  K := K
  mg := mg
  base := base
  A := A.deeper (envOfC qual scope s.heap.objs.size f cd)
  N := N
  s₀ := s
  H₀ := H
  env := envOfC qual scope s.heap.objs.size f cd
  outer := outer
  stack := envOfC qual scope s.heap.objs.size f cd :: outer
  ex := []
  calm := true
  fn := fun _ => true
  pn := []
  xe := fun e s' => wpAny (model P w) (A.deeper (envOfC qual scope s.heap.objs.size f cd)) (leaving (envOfC qual scope s.heap.objs.size f cd) e) (fun _ s'' => CX outer H s E e s'') (fun e' s'' => CX outer H s E e' s'') s'

theorem cell_has {sc : Scope} {n : Nat} {x : Str} (h : sc.names.lookup x = some .cell) : ∃ c, (cellsFrom n sc.names []).lookup x = some c := by
  have q := PySem.W.cellsFrom_some sc.names n [] (.inl h)
  exact Option.isSome_iff_exists.mp q

theorem inv_start {CX : CXT} {P : Program} {w : World} {K : PySem.W.Frag} {mg : Str → Option Value} {base : Heap} {N ps : List Str} {qual : Str} {scope : Scope} {f : Addr} {cd : Value} {A : Around} {outer : List Env} {s s1 : Shared} {H : Hp} {E : XK} {us : List Value} {vs : List V}
    (S : FnScope N ps scope) (hd : A.handled = none) (e0 : Env0 P w K mg base A outer s H) (hl : vs.length = ps.length) (r : Vals vs us)
    (x : InCallC s s.heap.objs.size (bindL (envOfC qual scope s.heap.objs.size f cd).kindOf (ps.zip us) fun _ => none) (cellsFrom (s.heap.objs.size + 1) scope.names []) (bindC (envOfC qual scope s.heap.objs.size f cd).kindOf (ps.zip us) fun _ => none) s1) :
    Inv (cxOf CX P w K mg base N qual scope f cd A outer s H E) [] (start N vs) H s1 := by
  have hpl : ps.length ≤ N.length := by have := congrArg List.length S.pre; rw [List.length_take] at this; omega
  obtain ⟨h1, tk, rfl, hk⟩ := x.done
  have noA : ∀ b : Addr, b ∉ (cxOf CX P w K mg base N qual scope f cd A outer s H E).ex := fun b z => absurd (show b ∈ ([] : List Addr) from z) (by simp)
  refine ⟨⟨e0.mod, S.kind, rfl, rfl, Nat.le_refl _, fun y z c h1 h2 => ?_, fun y hy => ?_, fun y c _ h => ?_, fun _ => hd, Around.frames_deeper e0.frames, .inr ⟨rfl, rfl⟩, fun b z => absurd z (noA b), e0.bs, e0.bsz, fun b _ _ => noA b, fun b z => absurd z (noA b), e0.funs, e0.frf⟩,
    rfl, e0.bare, Un.kept hk, ⟨_, x.toInCall.ns, fun i y v h1 h2 h3 => ?_⟩, fun y c h => ⟨_, x.cell y c h⟩, e0.hok.fresh (Nat.le_refl _), fun y c h => ?_, fun p hp => absurd (show p ∈ ([] : List (Addr × Obj)) from hp) (by simp), e0.hok.kept hk, ?_⟩
  · exact name_of_addr x.apart (PySem.mem_of_lookup h1) (PySem.mem_of_lookup h2)
  · have hy : scope.names.lookup y = some .cell ∨ scope.names.lookup y = some .free := hy
    rcases hy with hy | hy
    · exact cell_has hy
    · exact absurd rfl (S.nofree _ (PySem.mem_of_lookup hy))
  · exact Nat.le_of_lt (x.above y c (PySem.mem_of_lookup h))
  · have hi : i < vs.length := by
      unfold start at h2
      by_cases hi : i < vs.length
      · exact hi
      · rw [List.getElem?_append_right (by simpa using hi)] at h2
        rw [List.getElem?_replicate] at h2
        split at h2 <;> cases h2
    have ha : vs[i]? = some v := by
      unfold start at h2
      rw [List.getElem?_append_left (by simpa using hi), List.getElem?_map] at h2
      cases e : vs[i]? with
      | none => rw [e] at h2; cases h2
      | some a => rw [e] at h2; cases h2; rfl
    obtain ⟨u, hu, rv⟩ := r.get ha
    have hp : ps[i]? = some y := by
      rw [← S.pre, List.getElem?_take_of_lt (by omega)]; exact h1
    have ndP : ps.Nodup := by rw [← S.pre]; exact S.nd.sublist (List.take_sublist _ _)
    refine ⟨u, rv, ?_⟩
    rcases S.par y (List.mem_of_getElem? hp) with k | k
    · exact .inl ⟨k, bindL_get ndP hp hu k⟩
    · obtain ⟨c, e⟩ := cell_has (n := s.heap.objs.size + 1) k
      refine .inr ⟨.inl k, c, e, ?_⟩
      have q := x.cell y c e
      rw [bindC_get ndP hp hu (by show scope.names.lookup y ≠ _; rw [k]; decide)] at q
      exact q
  · exact e0.hok.fresh (Nat.le_of_lt (x.above y c (PySem.mem_of_lookup h)))
  · unfold start
    show _ = N.length
    rw [List.length_append, List.length_map, List.length_replicate]
    omega

/-- THE RULE: a def (or a method) of the text, by its body. The body's reading t is chosen for each entry; it is run at the parameters' values -/
theorem fn_of {CX : CXT} {P : Program} {w : World} {K : PySem.W.Frag} {mg : Str → Option Value} {base : Heap} {k : Nat} {f : Addr} {name qual : Str} {params : Arguments} {body : List Stmt} {scope : Scope} {dV kV doc pm cdv ct oc : Value} {an od : Option Addr}
    {osl : Array (Option Value)} {N ps : List Str} {sp : Sp} (lk : K.lookup f = some ⟨oc, od, .func (PySem.W.fnOf name qual params body scope dV kV doc pm an cdv ct), osl⟩) (hcd : PySem.W.codeIn K cdv qual = true) (S : FnScope N ps scope)
    (len : ∀ vs H Q E, sp vs H Q E → vs.length = ps.length)
    (hbody : ∀ (A : Around) (outer : List Env) (s : Shared) (H : Hp) (vs : List V) (Q : VK) (E : XK), Room k (A.deeper (envOfC qual scope s.heap.objs.size f cdv)) → sp vs H Q E →
      ∃ t, PSs (cxOf CX P w K mg base N qual scope f cdv A outer s H E) body t ∧ t { nx := fun _ H' => Q .non H', rt := Q } (start N vs) H) :
    FnOk P w K mg base CX (k + 1) f (PySem.W.fnOf name qual params body scope dV kV doc pm an cdv ct) ps sp := by
  refine ⟨len, fun A outer s H args us vs Q E hr e0 hb r hsp => ?_⟩
  have hl := len _ _ _ _ hsp
  have KX : K.In s.heap := e0.mod.kin.keeps fun b o e => (e0.bs b o e).1
  have lim : s.heap.NoLimit := e0.mod.nolimit.keeps fun b o e => (e0.bs b o e).1
  have hkind : ∀ y ∈ ps.zip us, scope.names.lookup y.1 = some .local ∨ (scope.names.lookup y.1 = some .cell ∧ ((cellsFrom (s.heap.objs.size + 1) scope.names []).lookup y.1).isSome = true) := fun ⟨n, v⟩ hy => by
    rcases S.par n (List.of_mem_zip hy).1 with q | q
    · exact .inl q
    · exact .inr ⟨q, PySem.W.cellsFrom_some _ _ _ (.inl q)⟩
  refine codeAny_call_function hr.depth (KX _ _ lk) rfl S.co S.gen rfl (PySem.W.codeRec_of KX hcd) (hb _ _ _ _ ?_)
  refine wpAny_newFunctionEnv_cells S.kind hkind fun env he s1 x => ?_
  subst he
  refine ⟨lim.keeps x.toInCall.keep, codeAny_func ?_⟩
  obtain ⟨t, ht, hq⟩ := hbody A outer s H vs Q E (hr.deeper _) hsp
  have I : Inv (cxOf CX P w K mg base N qual scope f cdv A outer s H E) [] (start N vs) H s1 := inv_start S hr.hd e0 hl r x
  refine wpAny_mono (ht [] s1 (start N vs) H _ I hq) (fun fl s' hs => ?_) fun e s' hs => hs
  have fin : ∀ {σ' : St} {H' : Hp} {v : V} {u : Value}, Inv (cxOf CX P w K mg base N qual scope f cdv A outer s H E) [] σ' H' s' → RelV v u → Q v H' → CE outer P w H s Q u s' :=
    fun {σ' H' v u} J rv q => ⟨v, H', J.os, J.bare, J.base, J.hok, rv, q⟩
  cases fl with
  | ret u =>
    obtain ⟨v, σ', H', J, rv, q⟩ := hs
    exact fin J rv q
  | next =>
    obtain ⟨σ', H', J, q⟩ := hs
    exact fin (v := V.non) (u := Value.none) J rfl q
  | brk =>
    obtain ⟨_, _, _, q⟩ := hs
    exact False.elim q
  | cont =>
    obtain ⟨_, _, _, q⟩ := hs
    exact False.elim q
end L2

namespace L2
open PySem PySem.Spec PyProof.Rows
section
variable {X : Cx} {x : Str} {p pos : Pos} {e : Expr} {es : List Expr} {t : TA} {id T : String} {r : List V → Hp → VK → Prop}

def tCB (r : List V → Hp → VK → Prop) (t : TA) : TE := fun σ H Q => t σ H fun vs H1 => r vs H1 Q
/-- f(e, ..), f a built-in function -/
theorem pe_callB (hc : CallR X (.builtin id) r) (hg : Gl X x) (hm : X.mg x = none) (hv : bootBuiltins x = some (.builtin id)) (ha : PA X (e :: es) t) (hn : x ≠ "__name__" := by decide) (hdb : (x == ("__debug__" : Str)) = false := by decide)
    (he : starEach (e :: es) X.env = (false, eval e X.env) :: starEach es X.env := by rfl) (hpl : (backTo pos (starEach es X.env)).any (·.1) = false := by rfl) : PE X (.Call (.Name x p) (e :: es) [] pos) (tCB r t) := by
  intro pins s σ H Q I h
  refine wpAny_Call_Name_kw (ld_blt I hg hm hv ?_ hn hdb)
  exact PyProof.Rows.callWith_builtin1 (thn (ha pos pins s σ H _ I h) fun us s1 ⟨vs, H1, I1, r1, q1⟩ => hc pins s1 σ H1 vs us Q I1 r1 q1) he hpl
/-- T(e, ..), T a built-in type -/
theorem pe_callTy (hc : CallR X (.type T) r) (hg : Gl X x) (hm : X.mg x = none) (hv : bootBuiltins x = some (.type T)) (ha : PA X (e :: es) t) (hn : x ≠ "__name__" := by decide) (hdb : (x == ("__debug__" : Str)) = false := by decide)
    (he : starEach (e :: es) X.env = (false, eval e X.env) :: starEach es X.env := by rfl) (hpl : (backTo pos (starEach es X.env)).any (·.1) = false := by rfl) : PE X (.Call (.Name x p) (e :: es) [] pos) (tCB r t) := by
  intro pins s σ H Q I h
  refine wpAny_Call_Name_kw (ld_blt I hg hm hv ?_ hn hdb)
  exact PyProof.Rows.callWith_type1 (thn (ha pos pins s σ H _ I h) fun us s1 ⟨vs, H1, I1, r1, q1⟩ => hc pins s1 σ H1 vs us Q I1 r1 q1) he hpl
end
end L2

namespace HT
open PySem PyProof.Rows

/-- t < u of tuples of ints -/
def lexLt : List Int → List Int → Bool
  | [], [] => false
  | [], _ :: _ => true
  | _ :: _, [] => false
  | x :: xs, y :: ys => if x = y then lexLt xs ys else decide (x < y)
theorem lexLt_cons (x y : Int) (xs ys : List Int) : lexLt (x :: xs) (y :: ys) = if x = y then lexLt xs ys else decide (x < y) := rfl
section
open PySem.SeqAt
open PySem.AutoSeq1 (wpAny_loadPart')
open PySem.MeetsSeq PySem.MeetsSeq2 PySem.MeetsSeq3

end

section
variable {prog : Program} {w : World} {A : Around} {E : Value → Shared → Prop} {s : Shared}

/-- t + u, t not empty -/
theorem cat_tup {t b : Addr} {vs ws : List Value} {Q : Value → Shared → Prop} (ht : IsTup s.heap t vs.toArray) (hb : IsTup s.heap b ws.toArray) (hv : vs ≠ [])
    (h1 : ws = [] → Q (.ref t) s) (h2 : ws ≠ [] → Q (.ref s.heap.objs.size) { s with heap := s.heap.push { cls := .type "tuple", data := .seq (vs ++ ws).toArray } })
    (hsz : vs.length + ws.length ≤ sizeLine) : wpAny (model prog w) A (binaryOp .Add (.ref t) (.ref b)) Q E s := by
  obtain ⟨⟨cls, dd, data, sl⟩, ho, hc, n, hd⟩ := id ht
  obtain ⟨⟨cls2, dd2, data2, sl2⟩, ho2, hc2, n2, hd2⟩ := id hb
  simp only at hc hd hc2 hd2
  subst hc hd hc2 hd2
  have e : vs.toArray ++ ws.toArray = (vs ++ ws).toArray := by simp
  by_cases hw : ws = []
  · exact concat_meets ⟨_, ho, rfl⟩ ⟨_, ho2, rfl⟩ noFill_tuple_add seq_tuple_add PySem.F.slot_tuple_add PySem.F.entry_tuple_add (PySem.F.args_tuple_add_2 _ _)
      (tuple_addW1 t b vs.toArray ws.toArray n n2 dd dd2 sl sl2 (by simpa using hv) (by simp [hw])) ⟨ho, ho2, h1 hw⟩
  · refine concat_meets ⟨_, ho, rfl⟩ ⟨_, ho2, rfl⟩ noFill_tuple_add seq_tuple_add PySem.F.slot_tuple_add PySem.F.entry_tuple_add (PySem.F.args_tuple_add_2 _ _)
      (tuple_addW2 t b vs.toArray ws.toArray n n2 dd dd2 sl sl2 (by simpa using hv) (by simpa using hw) (by rw [List.size_toArray, List.size_toArray]; exact hsz)) ⟨ho, ho2, ?_⟩
    rw [e]
    exact h2 hw

/-! ### t[a:b], not the whole -/
end
end HT

namespace L2
open PySem PySem.Spec PyProof.Rows

/-! ### the parts of a slice -/
abbrev TO := St → Hp → (Option Int → Hp → Prop) → Prop
section
variable {X : Cx} {e : Expr} {te : TE} {lo hi : Option Expr} {tl th : TO} {pos p2 : Pos}

/-! ### t < u, t + u -/
end
end L2

namespace L2
open PySem PySem.Spec PyProof.Rows

/-! ### places -/
/-- the place that an index of any sign means -/
def ixN (n : Nat) (i : Int) : Option Nat := if 0 ≤ i then (if i < n then some i.toNat else none) else if -(n : Int) ≤ i then some (i + n).toNat else none
def atI {α : Type} (xs : List α) (i : Int) : Option α := (ixN xs.length i).bind fun j => xs[j]?
theorem ixN_seq {n : Nat} {i : Int} {j : Nat} (h : ixN n i = some j) : seqIndex? i n = some j ∧ j < n ∧ -(n : Int) ≤ i ∧ i < n := by
  unfold ixN at h
  by_cases h0 : 0 ≤ i
  · rw [if_pos h0] at h
    by_cases h1 : i < n
    · rw [if_pos h1] at h
      have e : i.toNat = j := Option.some.inj h
      exact ⟨by rw [seqIndex_of h0 h1, e], by omega, by omega, h1⟩
    · rw [if_neg h1] at h; cases h
  · rw [if_neg h0] at h
    by_cases h1 : -(n : Int) ≤ i
    · rw [if_pos h1] at h
      have e : (i + n).toNat = j := Option.some.inj h
      exact ⟨by rw [seqIndex_neg (by omega) h1, e], by omega, h1, by omega⟩
    · rw [if_neg h1] at h; cases h
theorem atI_get {α : Type} {xs : List α} {i : Int} {v : α} (h : atI xs i = some v) : ∃ j, seqIndex? i xs.length = some j ∧ xs[j]? = some v ∧ j < xs.length ∧ -(xs.length : Int) ≤ i ∧ i < xs.length := by
  unfold atI at h
  cases e : ixN xs.length i with
  | none => rw [e] at h; cases h
  | some j =>
    rw [e] at h
    obtain ⟨h1, h2, h3, h4⟩ := ixN_seq e
    exact ⟨j, h1, h, h2, h3, h4⟩
theorem atI_nat {α : Type} {xs : List α} {j : Nat} {v : α} (h : xs[j]? = some v) : atI xs (j : Int) = some v := by
  have hj : j < xs.length := (List.getElem?_eq_some_iff.mp h).1
  have e : ixN xs.length (j : Int) = some j := by
    unfold ixN
    rw [if_pos (by omega), if_pos (by omega)]; simp
  unfold atI; rw [e]; exact h
/-! ### what may be subscripted -/
/-- what stands as an index of a plain subscript -/
def PlainIx (b : Expr) : Prop := ∀ o i, subscripted b false o i = operate [o, i] (getItem o i)
/-- a subscript by values -/
def IxR (X : Cx) (r : R2) : Prop :=
  ∀ (value slice : Expr) (pins : List (Addr × Obj)) (s : Shared) (σ : St) (H : Hp) (x y : V) (v u : Value) (Q : VK), Inv X pins σ H s → RelV x v → RelV y u → r x y H Q →
    subscripted slice false v u = operate [v, u] (getItem v u) → wpAny (model X.prog X.w) X.A (subscriptTail value slice v u) (EP X pins σ Q) X.xe s
/-- a call of a builtin's method by values: the receiver, the arguments -/
def MtR (X : Cx) (id : String) (r : V → List V → Hp → VK → Prop) : Prop :=
  ∀ (pins : List (Addr × Obj)) (s : Shared) (σ : St) (H : Hp) (x : V) (xs : List V) (v : Value) (us : List Value) (Q : VK), Inv X pins σ H s → RelV x v → Vals xs us → r x xs H Q →
    wpAny (model X.prog X.w) X.A (call (.builtin id) (v :: us)) (EP X pins σ Q) X.xe s
section
variable {X : Cx} {a b : Expr} {ta tb : TE} {pos : Pos}
/-- a[b] -/
theorem pe_ix {r : R2} (hr : IxR X r) (ha : PE X a ta) (hb : PE X b tb) (hs : PlainIx b) : PE X (.Subscript a b pos) (tOp r ta tb) := by
  intro pins s σ H Q I h
  exact Subscript_ (binT ha hb I h fun v u s2 x y H2 I2 rx ry q => hr a b pins s2 σ H2 x y v u Q I2 rx ry q (hs _ _))

def rIxL (K : PySem.W.Frag) : R2 := fun x y H Q => ∃ p xs i v, x = .ref p ∧ y = .int i ∧ SqL K H p xs ∧ atI xs i = some v ∧ Q v H
def rIxT (K : PySem.W.Frag) : R2 := fun x y H Q => ∃ p xs i v, x = .ref p ∧ y = .int i ∧ SqT K H p xs ∧ atI xs i = some v ∧ Q v H
theorem ix_list : IxR X (rIxL X.K) := by
  intro value slice pins s σ H x y v u Q I rx ry h hs
  obtain ⟨p, xs, i, z, rfl, rfl, hq, he, q⟩ := h
  cases rx
  obtain ⟨t, rfl⟩ := ry
  obtain ⟨its, r, pl, hz⟩ := I.list hq
  obtain ⟨j, h1, h2, h3, h4, h5⟩ := atI_get he
  obtain ⟨w, ew, rw'⟩ := r.get h2
  have hl := r.length
  have hn := line63
  have fin : EP X pins σ Q w s := ⟨z, H, I, rw', q⟩
  by_cases h0 : 0 ≤ i
  · have hj : i.toNat = j := by
      rw [seqIndex_of h0 h5] at h1
      exact Option.some.inj h1
    exact item_listR pl.isList h0 (by omega) (by rw [hj]; simpa using ew) fin hs
  · have hj : (i + (its.toArray.size : Int)).toNat = j := by
      rw [seqIndex_neg (by omega) h4] at h1
      rw [List.size_toArray, ← hl]
      exact Option.some.inj h1
    exact subscriptTail_builtinR (x := w) pl.isList.typeIs slot_list_getitem.lookup
      (wpAny_getItem_list_neg (Q := fun r s' => r = w ∧ EP X pins σ Q r s') pl.isList (by omega) (by rw [List.size_toArray] <;> omega) (by omega) (by rw [hj]; simpa using ew) ⟨rfl, fin⟩) hs
theorem ix_tup : IxR X (rIxT X.K) := by
  intro value slice pins s σ H x y v u Q I rx ry h hs
  obtain ⟨p, xs, i, z, rfl, rfl, hq, he, q⟩ := h
  cases rx
  obtain ⟨t, rfl⟩ := ry
  obtain ⟨its, r, pl, hz⟩ := I.tuple hq
  obtain ⟨j, h1, h2, h3, h4, h5⟩ := atI_get he
  obtain ⟨w, ew, rw'⟩ := r.get h2
  have hl := r.length
  have hn := line63
  have fin : EP X pins σ Q w s := ⟨z, H, I, rw', q⟩
  exact subscriptTail_builtinR (x := w) pl.typeIs slot_tuple_getitem.lookup
    (getItem_tuple (j := j) (Q := fun r s' => r = w ∧ EP X pins σ Q r s') pl (by omega) (by omega) (by rw [List.size_toArray, ← hl]; exact h1) (by simpa using ew) ⟨rfl, fin⟩) hs
/-! ### xs[i] = v, any sign -/
/-- the list's object behind a store -/
theorem mapSeq_set (its : List Value) (n j : Nat) (u : Value) : Obj.mapSeq (·.setIfInBounds j u) { cls := .type "list", data := .seq its.toArray n } = { cls := .type "list", data := .seq (its.set j u).toArray n } := by
  simp [Obj.mapSeq]
theorem Inv.lst {pins : List (Addr × Obj)} {σ : St} {H : Hp} {s : Shared} {p : Addr} {xs : List V} (I : Inv X pins σ H s) (h : H p = some (.lst xs)) :
    ∃ (its : List Value) (n : Nat), Vals xs its ∧ s.heap.get? p = some { cls := .type "list", data := .seq its.toArray n } ∧ xs.length ≤ sizeLine := by
  obtain ⟨z, its, n, r, e⟩ := I.hok p _ h
  exact ⟨its, n, r, e, z⟩
/-- the list at p is written by an update of its object -/
theorem Inv.lstUpd {pins : List (Addr × Obj)} {σ : St} {H : Hp} {s : Shared} {p : Addr} {xs ys : List V} {its its' : List Value} {n n' : Nat} {f : Obj → Obj} (I : Inv X pins σ H s) (h : H p = some (.lst xs))
    (ho : s.heap.get? p = some { cls := .type "list", data := .seq its.toArray n }) (hf : f { cls := .type "list", data := .seq its.toArray n } = { cls := .type "list", data := .seq its'.toArray n' }) (r : Vals ys its') (hz : ys.length ≤ sizeLine) (t : Nat) :
    Inv X pins σ (upd H p (.lst ys)) { s with heap := s.heap.update p f, toks := t } := by
  have e : (s.heap.update p f).get? p = some { cls := .type "list", data := .seq its'.toArray n' } := by
    rw [Heap.get?_update_self f ho (by rw [hf] <;> rfl), hf]
  refine I.write (x := p) (e := p) (by rw [h]; trivial) (.inl rfl) (fun b u hb q => (Heap.get?_update_other _ _ (Ne.symm hb)).trans q) ⟨_, e⟩ ?_
  exact ⟨hz, its', n', r, e⟩
def rSetL : V → V → V → Hp → (Hp → Prop) → Prop := fun o i v H Q => ∃ p xs k j, o = .ref p ∧ i = .int k ∧ H p = some (.lst xs) ∧ ixN xs.length k = some j ∧ Q (upd H p (.lst (xs.set j v)))
theorem set_list : PSet X rSetL := by
  intro pins s σ H o i v ov iv u Q I ro ri rv h
  obtain ⟨p, xs, k, j, rfl, rfl, hp, hj, q⟩ := h
  cases ro
  obtain ⟨t, rfl⟩ := ri
  obtain ⟨its, n, r, ho, hz⟩ := I.lst hp
  obtain ⟨h1, h2, h3, h4⟩ := ixN_seq hj
  have hl := r.length
  have hn := line63
  have I' : Inv X pins σ (upd H p (.lst (xs.set j v))) { s with heap := s.heap.update p (Obj.mapSeq (·.setIfInBounds j u)) } :=
    I.lstUpd hp ho (mapSeq_set its n j u) (r.set rv j) (by rw [List.length_set]; exact hz) s.toks
  by_cases h0 : 0 ≤ k
  · have hk : k.toNat = j := by
      rw [seqIndex_of h0 h4] at h1
      exact Option.some.inj h1
    exact PySem.W.ki_setAt ho h0 (by omega) (by rw [List.size_toArray, ← hl]; exact h4) (by rw [hk]; exact ⟨_, I', q⟩)
  · have hk : (k + (its.toArray.size : Int)).toNat = j := by
      rw [seqIndex_neg (by omega) h3] at h1
      rw [List.size_toArray, ← hl]
      exact Option.some.inj h1
    exact PySem.W.ki_setBack ho (by omega) (by rw [List.size_toArray, ← hl]; exact h3) (by omega) (by rw [hk]; exact ⟨_, I', q⟩)

/-! ### slices -/
/-! ### in, not in: flat items -/
/-! ### len, list(x), tuple(x) of any list or tuple that is read -/
theorem call_len_seq : CallR X (.builtin "len") (fun xs H Q => ∃ p ys, xs = [.ref p] ∧ (SqL X.K H p ys ∨ SqT X.K H p ys) ∧ Q (.int ys.length) H) := by
  intro pins s σ H xs us Q I r h
  obtain ⟨p, ys, rfl, hq, q⟩ := h
  obtain ⟨u, rfl, rx⟩ := vals1 r
  cases rx
  have hn := line63
  rcases hq with hq | hq
  · obtain ⟨its, r', pl, hz⟩ := I.list hq
    have hlen := r'.length
    exact Calls.call_len_list pl.isList (by simp only [List.size_toArray] <;> omega) ⟨.int ys.length, H, I.tok _, ⟨s.toks + 1, by rw [List.size_toArray, hlen]⟩, q⟩
  · obtain ⟨its, r', pl, hz⟩ := I.tuple hq
    have hlen := r'.length
    exact len_tuple pl (by simp only [List.size_toArray] <;> omega) ⟨.int ys.length, H, I.tok _, ⟨s.toks + 1, by rw [List.size_toArray, hlen]⟩, q⟩
/-! ### the call of a builtin's method: o.m(..) -/
/-- the value is of that builtin type -/
def tyV (K : PySem.W.Frag) (T : String) (x : V) (H : Hp) : Prop := match x with
  | .str _ => T = "str"
  | .int _ => T = "int"
  | .ref p => (T = "list" ∧ ∃ xs, SqL K H p xs) ∨ (T = "tuple" ∧ ∃ o, K.lookup p = some o ∧ o.cls = .type "tuple" ∧ o.dict = none) ∨
      (T = "dict" ∧ ((∃ kvs, H p = some (.dK kvs)) ∨ ∃ kvs, H p = some (.dT kvs))) ∨ (T = "set" ∧ ∃ S n, H p = some (.set S n))
  | _ => False
theorem tyV_is {pins : List (Addr × Obj)} {σ : St} {H : Hp} {s : Shared} {T : String} {x : V} {v : Value} (I : Inv X pins σ H s) (r : RelV x v) (ty : tyV X.K T x H) :
    s.TypeIs v T ∧ ∀ a, v = .ref a → ∃ ob, s.heap.get? a = some ob ∧ ob.dict = none := by
  cases x with
  | str z =>
    obtain ⟨t, rfl⟩ := r
    cases (show T = "str" from ty)
    exact ⟨typeIs_str s z t, fun _ e => nomatch e⟩
  | int i =>
    obtain ⟨t, rfl⟩ := r
    cases (show T = "int" from ty)
    exact ⟨typeIs_int s i t, fun _ e => nomatch e⟩
  | ref p =>
    cases r
    rcases ty with ⟨rfl, xs, hq⟩ | ⟨rfl, o, hk, hc, hd⟩ | ⟨rfl, hk⟩ | ⟨rfl, S, n, hk⟩
    · obtain ⟨its, _, pl, _⟩ := I.list hq
      refine ⟨pl.isList.typeIs, fun a e => ?_⟩
      cases e
      obtain ⟨o, n, e, c, hd, _⟩ := pl
      exact ⟨o, e, hd⟩
    · refine ⟨⟨o, I.kIn p o hk, hc⟩, fun a e => ?_⟩
      cases e
      exact ⟨o, I.kIn _ o hk, hd⟩
    · have z : ∃ o, s.heap.get? p = some o ∧ o.ExactDict := by
        rcases hk with ⟨kvs, hk⟩ | ⟨kvs, hk⟩
        · obtain ⟨_, _, _, _, o, _, _, e, ex, _⟩ := I.hok p _ hk
          exact ⟨o, e, ex⟩
        · obtain ⟨_, _, _, _, o, _, _, e, ex, _⟩ := I.hok p _ hk
          exact ⟨o, e, ex⟩
      obtain ⟨o, e, ex⟩ := z
      refine ⟨⟨o, e, ex.1⟩, fun a e2 => ?_⟩
      cases e2
      exact ⟨o, e, ex.2.1⟩
    · obtain ⟨o, _, _, _, e, ex, _⟩ := I.hok p _ hk
      refine ⟨⟨o, e, ex.1⟩, fun a e2 => ?_⟩
      cases e2
      exact ⟨o, e, ex.2.1⟩
  | _ => exact False.elim ty
def tBM (K : PySem.W.Frag) (T : String) (r : V → List V → Hp → VK → Prop) (to : TE) (t : TA) : TE := fun σ H Q => to σ H fun x H1 => tyV K T x H1 ∧ t σ H1 fun xs H2 => r x xs H2 Q
variable {o e : Expr} {es : List Expr} {to : TE} {t : TA} {name : Str} {apos cpos : Pos} {T id : String} {r : V → List V → Hp → VK → Prop}
theorem pe_bm (pa : PlainAttrs T) (slot : Slot T name id) (hty : typeOf (.builtin id) = pure (.type "method_descriptor")) (hm : MtR X id r) (ho : PE X o to) (ha : PA X (e :: es) t)
    (hbase : attributeBase o name X.env (eval o X.env) = eval o X.env := by rfl)
    (hfew : ((backTo cpos (starEach (e :: es) X.env)).all (fun x => !x.1) && (backToKw cpos (keywordEach [] X.env)).all (fun x => x.1.isSome)
      && decide ((e :: es).length + ([] : List Keyword).length + (if ([] : List Keyword).isEmpty then 0 else 1) < 30)) = true := by rfl)
    (hline : (apos.endLine == cpos.line) = true := by rfl) (hs : starEach (e :: es) X.env = (false, eval e X.env) :: starEach es X.env := by rfl) (hplain : (backTo cpos (starEach es X.env)).any (·.1) = false := by rfl) :
    PE X (.Call (.Attribute o name apos) (e :: es) [] cpos) (tBM X.K T r to t) := by
  intro pins s σ H Q I h
  refine wpAny_Call_method_late hbase hfew hline rfl (thn (ho pins s σ H _ I h) fun v s1 ⟨x, H1, I1, r1, ty, q1⟩ => ?_)
  obtain ⟨h1, h2⟩ := tyV_is I1 r1 ty
  refine ⟨T, id, pa, slot, hty, h1, h2, ?_⟩
  have hA := ha cpos pins s1 σ H1 _ I1 q1
  rw [hs] at hA ⊢
  refine Calls.callWith_builtin (by show (false || (backTo cpos (starEach es X.env)).any (·.1)) = false; rw [hplain] <;> rfl) (Calls.evalArgs_plain ?_)
  exact thn hA fun us s2 ⟨vs, H2, I2, r2, q2⟩ => hm pins s2 σ H2 x vs v us Q I2 r1 r2 q2
/- xs.append(e), list.index on a module's tuple .. are MtR facts of 06m -/
end
end L2

namespace L2
open PySem PySem.Spec PyProof.Rows

def MtM (X : Cx) (id : String) (r : V → List V → Hp → VK → Prop) : Prop :=
  ∀ (pins : List (Addr × Obj)) (s : Shared) (σ : St) (H : Hp) (x : V) (xs : List V) (v : Value) (us : List Value) (Q : VK), Inv X pins σ H s → RelV x v → Vals xs us → r x xs H Q →
    wpAny (model X.prog X.w) X.A (call (.builtin id) (v :: us)) (EP X pins σ Q) X.xe s

/-! ### lists of values -/
theorem Vals.one : ∀ {x : V} {us : List Value}, Vals [x] us → ∃ u, us = [u] ∧ RelV x u
  | _, _, .cons r .nil => ⟨_, rfl, r⟩
theorem Vals.two : ∀ {x y : V} {us : List Value}, Vals [x, y] us → ∃ u v, us = [u, v] ∧ RelV x u ∧ RelV y v
  | _, _, _, .cons r (.cons q .nil) => ⟨_, _, rfl, r, q⟩
theorem Vals.zero : ∀ {us : List Value}, Vals [] us → us = []
  | _, .nil => rfl
theorem Vals.dropLast {xs : List V} {us : List Value} (h : Vals xs us) : Vals xs.dropLast us.dropLast := by
  induction h with
  | nil => exact .nil
  | cons r t ih =>
    cases t with
    | nil => exact .nil
    | cons q t' => exact .cons r ih
theorem Vals.reverse {xs : List V} {us : List Value} (h : Vals xs us) : Vals xs.reverse us.reverse := by
  induction h with
  | nil => exact .nil
  | cons r t ih => rw [List.reverse_cons, List.reverse_cons]; exact Vals.append ih (.cons r .nil)
section
variable {X : Cx} {pins : List (Addr × Obj)} {σ : St} {H : Hp} {s : Shared} {l b : Addr} {xs ys zs : List V}

/-! ### the two steps: a tracked list is rewritten, a new list is laid -/
theorem Inv.lset {its its' : List Value} {n : Nat} {f : Array Value → Array Value} {t' : Nat} (I : Inv X pins σ H s) (hH : H l = some (.lst xs))
    (e : s.heap.get? l = some { cls := .type "list", data := .seq its.toArray n }) (hf : f its.toArray = its'.toArray) (hv : Vals ys its') (hz : ys.length ≤ sizeLine) :
    Inv X pins σ (upd H l (.lst ys)) { s with heap := s.heap.update l (Obj.mapSeq f), toks := t' } := by
  have q := PySem.IsL.update e f
  rw [hf] at q
  refine I.write (x := l) (e := l) (by rw [hH]; exact trivial) (.inl rfl) (fun b' u hb hu => (Heap.get?_update_other s.heap (Obj.mapSeq f) (Ne.symm hb)).trans hu) ⟨_, q⟩ ?_
  exact ⟨hz, its', _, hv, q⟩
theorem Inv.lnew {its : List Value} {t' : Nat} (I : Inv X pins σ H s) (hv : Vals ys its) (hz : ys.length ≤ sizeLine) :
    Inv X pins σ (upd H s.heap.objs.size (.lst ys)) { s with heap := s.heap.push { cls := .type "list", data := .seq its.toArray }, toks := t' } :=
  I.laid (fun _ _ q => Heap.get?_push_of_some _ q) (Nat.le_refl _) ⟨hz, its, 0, hv, Heap.get?_push_size _ rfl⟩
theorem Inv.fresh (I : Inv X pins σ H s) : H s.heap.objs.size = none := I.hok.fresh (Nat.le_refl _)
theorem Inv.lstM (I : Inv X pins σ H s) (hH : H l = some (.lst xs)) : xs.length ≤ sizeLine ∧ ∃ (its : List Value) (n : Nat), Vals xs its ∧ xs.length = its.length ∧ s.heap.get? l = some { cls := .type "list", data := .seq its.toArray n } := by
  obtain ⟨z, its, n, r, e⟩ := I.hok l _ hH
  exact ⟨z, its, n, r, r.length, e⟩

end

section
variable {X : Cx}

/-! ### methods -/
def rAppend : V → List V → Hp → VK → Prop := fun x vs H Q => ∃ l xs y, x = .ref l ∧ vs = [y] ∧ H l = some (.lst xs) ∧ xs.length < sizeLine ∧ Q .non (upd H l (.lst (xs ++ [y])))
theorem mt_append : MtM X "list.append" rAppend := by
  intro pins s σ H x vs v us Q I rx rv h
  obtain ⟨l, xs, y, rfl, rfl, hH, hz, q⟩ := h
  cases rx
  obtain ⟨u, rfl, ru⟩ := rv.one
  obtain ⟨z, its, n, r, hl, e⟩ := I.lstM hH
  refine call_meets F.slot_list_append ⟨_, e, rfl⟩ F.entry_list_append (F.args_list_append_2 _ _) (PySem.list_append l its.toArray n u (by rw [List.size_toArray]; omega)) ⟨e, ?_⟩
  refine ⟨.non, _, I.lset (its' := its ++ [u]) hH e (by simp) (r.append (.cons ru .nil)) ?_, rfl, q⟩
  rw [List.length_append, List.length_singleton]
  omega

/-! ### list + list, list += list, list * int -/
def rCat : R2 := fun x y H Q => ∃ l b xs zs, x = .ref l ∧ y = .ref b ∧ H l = some (.lst xs) ∧ H b = some (.lst zs) ∧ xs.length + zs.length ≤ sizeLine ∧ ∀ p, H p = none → Q (.ref p) (upd H p (.lst (xs ++ zs)))
theorem op_cat : OpR X (binaryOp .Add) rCat := by
  intro pins s σ H x y v u Q I rx ry h
  obtain ⟨l, b, xs, zs, rfl, rfl, hH, hB, hz, q⟩ := h
  cases rx
  cases ry
  obtain ⟨z, its, n, r, hl, e⟩ := I.lstM hH
  obtain ⟨z2, its2, n2, r2, hl2, e2⟩ := I.lstM hB
  refine PySem.P.add_list e e2 ?_ (by rw [List.size_toArray, List.size_toArray]; omega)
  have ea : its.toArray ++ its2.toArray = (its ++ its2).toArray := by simp
  rw [ea]
  exact ⟨.ref _, _, I.lnew (t' := s.toks) (r.append r2) (by rw [List.length_append]; omega), rfl, q _ I.fresh⟩
/-! ### del xs[i] -/
end

/-! ### xs[a:b] = ys -/
section
variable {prog : Program} {w : World} {A : Around} {E : Value → Shared → Prop} {s : Shared}
end

section
variable {X : Cx}
end
end L2

namespace Att
open PySem PySem.W PySem.Calls PyProof.Rows

/-! ### the script -/
theorem ints_of_wellAll {P : Params} {h : Heap} : ∀ (ns : List Int) (vs : List Value), WellAll P h vs (ns.map WData.int) → IntsAre vs ns := by
  intro ns
  induction ns with
  | nil =>
    intro vs w
    rw [List.map_nil] at w
    cases w
    exact .nil
  | cons n ns ih =>
    intro vs w
    rw [List.map_cons] at w
    cases w with
    | cons a b =>
      cases a
      exact .cons _ _ (ih _ b)

theorem script_of {l : OpenLaw} {n : Nat} (hn : l.most = some n) {P : Params} {h : Heap} {args : List WData} {vals : List Value}
    (hpre : l.row.toRowW.claim.pre args = true) (hwl : WellAll P h vals args) :
    ∃ a vs ns, vals = [Value.ref a] ∧ args = [WData.list (ns.map WData.int)] ∧ h.get? a = some { cls := .type "list", data := .seq vs.toArray } ∧ IntsAre vs ns ∧ ns.length ≤ n := by
  have hsh : WShape.hasAll [] args [.list .int] = true := (pre_splitW hpre).1
  have hc : l.pre.holds [] { args := args } = true := (pre_splitW hpre).2
  obtain ⟨d, r, rfl, h1, h2⟩ := hasAllW_cons hsh
  obtain rfl := hasAllW_nil h2
  obtain ⟨xs, rfl, h3⟩ := hasW_list h1
  obtain ⟨ns, rfl⟩ := items_int h3
  have hlen : ns.length ≤ n := by
    unfold OpenLaw.pre at hc
    have h4 : (WTm.not (.lt (.lit (.int (n : Int))) (.len (.arg 0)))).holds [] { args := [.list (ns.map .int)] } = true := by
      have h4 := (holds_andW hc).1
      rw [hn] at h4
      exact h4
    have h5 := condW_of h4 (w_not (w_lt w_lit (w_len_list (w_arg rfl))))
    rw [List.length_map] at h5
    refine Nat.le_of_not_lt fun q => ?_
    have q' : (n : Int) < ((ns.length : Nat) : Int) := by omega
    first
      | (rw [decide_eq_true q'] at h5; exact absurd h5 (by decide))
      | (simp at h5; omega)
  cases hwl with
  | cons w1 w2 =>
    cases w2
    cases w1 with
    | list ho hall => exact ⟨_, _, ns, rfl, rfl, ho, ints_of_wellAll ns _ hall, hlen⟩

theorem post_true (l : OpenLaw) (args : List WData) : l.row.toRowW.claim.post args (.bool true) args = true :=
  postW_of (r := l.row.toRowW) (X := (true == true))
    (show WShape.has [] (.bool true) .bool = true by first | rfl | decide | simp [WShape.has, WShape.arms, WShape.armsAll])
    (show (WTm.eq .res (.lit (.bool true))).value [] { args := args, res := some (.bool true), after := args } = some (.bool (true == true)) from w_eq_bool (w_res rfl) w_lit) rfl

/-! ### the attachment: holds_open's last premise (the goal 'hc' behind k_head) from a wpAny of the law's body -/
/-- the same from a codeAny of the CALL (for a layer whose function contracts speak of calls) -/
theorem attach_call {l : OpenLaw} {n : Nat} {q : Program} {loose : List Str} {XP : (Str → Option Value) → Heap → Prop} {YP : World → Heap → Prop} {d : DefRec}
    (hn : l.most = some n) (hdf : d.params.defaults = [])
    (call : ∀ (w : World) (s₀ s₁ : Shared) (mg mb : Str → Option Value) (fa : Addr) (o : Obj) (pm cd doc : Value) (a : Addr) (vs : List Value) (ns : List Int),
      Ground q loose [] XP w s₀ mg mb s₁.heap → YP w s₁.heap →
      s₁.heap.get? fa = some o → o.data = .func (docDef d.name d.params d.body d.scope pm cd doc) → s₁.heap.CodeRec cd d.name → mg d.name = some (.ref fa) →
      s₁.heap.get? a = some { cls := .type "list", data := .seq vs.toArray } → IntsAre vs ns → ns.length ≤ n → s₁.gens = #[] →
      codeAny (model l.prog w) callerA (.call (.ref fa) ⟨[.ref a], []⟩) (fun r s' => r = .ok (.ret (.bool true)) ∧ OldK s₁.heap s'.heap ∧ s'.os = s₁.os ∧ AllBare s'.gens) s₁) :
    WalkO q loose XP YP l.row.toRowW d [] (fun f vs => PySem.call f vs) := by
  intro w s₀ s₁ mg mb G Y fa o pm cd doc dV kV ho hd hcd hD hmg hg args vals as hpre hlay hrd hwl hlo
  obtain rfl : dV = .none := Dflts.none hD hdf
  obtain rfl : kV = .none := Dflts.noKw hD
  obtain ⟨a, vs, ns, rfl, rfl, hobj, hints, hlen⟩ := script_of hn hpre hwl
  refine enter_call (codeAny_mono (call w s₀ s₁ mg mb fa o pm cd doc a vs ns G Y ho (fd_plain hd) hcd hmg hobj hints hlen hg) fun r s' hq => ?_)
  obtain ⟨rfl, h2, h3, h4⟩ := hq
  exact ⟨.inl ⟨.bool true, .bool true, [], rfl, fun _ => rfl, .bool true, post_true l _, fun _ => ⟨List.Pairwise.nil, fun _ hm => (nomatch hm)⟩⟩, h2, h3, h4⟩

/-! ### rules over ANY heap (no ledger) from facts about the written part K: the library's own take a ledger (News) for what they write -/
section
variable {prog : Program} {w : World} {A : Around} {E : Value → Shared → Prop} {s : Shared} {K : Frag}

/-! the whole heap as the ledger: makes every rule that writes through a ledger a rule over any heap -/
end
end Att

namespace L2
open PySem PySem.Spec PyProof.Rows

theorem vals_ints : ∀ {vs : List Value} {ns : List Int}, IntsAre vs ns → Vals (ns.map V.int) vs
  | _, _, .nil => .nil
  | _, _, .cons n t h => .cons ⟨t, rfl⟩ (vals_ints h)

end L2

namespace L2
open PySem PySem.Spec PyProof.Rows

end L2

/- THE LAST THEOREM (shape; LID, My.* are yours):
   My.Adr: a structure of the addresses that your layer names (classes, functions); My.Txt K t: a structure (Prop) of the equations over K;
   My.txt_mk : {K} {implicit addresses ..} (e1 : nsIn K mainGlobals "law" = some (some (.ref f))) (e2 : K.lookup f = some ⟨oc, od, .func (fnOf "law" "law" params body scope dV kV doc pm an cdv ct), sl⟩) (e3 : codeIn K cdv "law" = true) .. : ∃ t, My.Txt K t

set_option maxRecDepth 100000 in
set_option maxHeartbeats 0 in
theorem PySem.Challenge.cw_LID_holds : PySem.Challenge.rw_LID.Holds := by
  w_on; o_law; k_head; (case hw => w_witness2)
  k_fill
  refine L2.walk_of (l := PySem.Challenge.rw_LID) (n := 63) (k := 40) (x := "script") (CX := fun w => ..) (sp := fun _ => My.sp_law) rfl (by decide) rfl ⟨rfl, by decide, by decide⟩ (fun w h Y => PySem.W.kIn_of Y) ?F ?S ?C
  case F =>
    intro w mg fa h KX G hmg
    have T : ∃ t, My.Txt (L2.KOf KX) t := by
      dsimp only [L2.KOf]                          -- K must stand as «<heap const> w.params» for k_is
      refine' My.txt_mk ?e1 ?e2 ?e3 ..
      (case e1 => PySem.W.k_is)                    -- in the order: a name -> its address -> its object -> its parts
      (case e2 => PySem.W.k_is)
      ..
    obtain ⟨t, T⟩ := T
    have e0 := hmg.symm.trans (PySem.W.mg_of KX G T.law)
    cases e0                                       -- fa is the law's own address
    exact ⟨_, fun s u => .of_eq rfl, fun base kb nb => My.law_fn T kb nb⟩     -- if «.of_eq rfl» comes too early: refine' ⟨_, ?b, fun base kb nb => My.law_fn T kb nb⟩; exact fun s u => .of_eq rfl
  case S => exact fun w H a ns hl hO hS => ..
  case C => exact ..
(the tactic k_is has no namespace: write k_is) -/

/-! SHORT WORDS over the layer: a def of the text, its body, what a loop and a test want. -/
namespace L2
open PySem PySem.Spec PyProof.Rows

/-! ### the text by places -/
def defArgs (s : Stmt) : Arguments := match s with
  | .FunctionDef _ a _ _ _ _ _ _ _ _ => a
  | _ => { posonlyargs := [], args := [], vararg := none, kwonlyargs := [], kw_defaults := [], kwarg := none, defaults := [] }
def defBody (s : Stmt) : List Stmt := match s with
  | .FunctionDef _ _ b _ _ _ _ _ _ _ => b
  | _ => []
def defScope (s : Stmt) : Scope := match s with
  | .FunctionDef _ _ _ _ _ _ sc _ _ _ => sc
  | _ => { kind := .function, names := [], isGenerator := false, isCoroutine := false }

/-! ### no exception leaves a def -/
abbrev CX0 : CXT := fun _ _ _ _ _ _ => False
abbrev E0 : XK := fun _ _ _ => False
theorem pass0 {X : Cx} : Passes CX0 X E0 := fun _ _ _ _ _ _ _ h => h.elim

/-! ### a def (or method) of the text as it stands behind the top -/
structure Fun (K : PySem.W.Frag) (x qual : Str) (st : Stmt) (f : Addr) (fd : FuncData) : Prop where
  ex : ∃ (oc : Value) (od : Option Addr) (kV doc pm : Value) (an : Option Addr) (cdv ct : Value) (osl : Array (Option Value)),
    fd = PySem.W.fnOf x qual (defArgs st) (defBody st) (defScope st) .none kV doc pm an cdv ct ∧ K.lookup f = some ⟨oc, od, .func fd, osl⟩ ∧ PySem.W.codeIn K cdv qual = true
  kp : PySem.W.keepIn K (.ref f) = true
section
variable {P : Program} {w : World} {K : PySem.W.Frag} {mg : Str → Option Value} {base : Heap}
/-- THE RULE for a def: its body as a term of rules, and the reading of that term -/
theorem Fun.ok {x qual : Str} {st : Stmt} {f : Addr} {fd : FuncData} {N ps : List Str} {k : Nat} {sp : Sp} (F : Fun K x qual st f fd) (S : FnScope N ps (defScope st)) (len : ∀ vs H Q E, sp vs H Q E → vs.length = ps.length)
    (hbody : ∀ (cdv : Value) (A : Around) (outer : List Env) (s : Shared) (H : Hp) (vs : List V) (Q : VK) (E : XK), Room k (A.deeper (envOfC qual (defScope st) s.heap.objs.size f cdv)) → sp vs H Q E →
      ∃ t, PSs (cxOf CX0 P w K mg base N qual (defScope st) f cdv A outer s H E).nox (defBody st) t ∧ t { nx := fun _ H' => Q .non H', rt := Q } (start N vs) H) : FnOk P w K mg base CX0 (k + 1) f fd ps sp := by
  obtain ⟨oc, od, kV, doc, pm, an, cdv, ct, osl, rfl, lk, hcd⟩ := F.ex
  refine fn_of lk hcd S len fun A outer s H vs Q E hr hsp => ?_
  obtain ⟨t, h, q⟩ := hbody cdv A outer s H vs Q E hr hsp
  exact ⟨t, h.nox, q⟩
/-- how its arguments bind (no defaults): h is «fun _ _ _ _ _ _ us hl => match us, hl with | [_, _], _ => rfl», one _ a parameter -/
theorem Fun.binds {x qual : Str} {st : Stmt} {f : Addr} {fd : FuncData} {ps : List Str} (F : Fun K x qual st f fd)
    (h : ∀ (kV doc pm : Value) (an : Option Addr) (cdv ct : Value) (us : List Value), us.length = ps.length → bindArgs (PySem.W.fnOf x qual (defArgs st) (defBody st) (defScope st) .none kV doc pm an cdv ct) ⟨us, []⟩ = pure (ps.zip us)) : Binds K fd ps [] := by
  obtain ⟨oc, od, kV, doc, pm, an, cdv, ct, osl, rfl, lk, hcd⟩ := F.ex
  exact .all (h kV doc pm an cdv ct)
theorem fun_mk {x qual : Str} {st : Stmt} {f : Addr} {oc : Value} {od an : Option Addr} {osl : Array (Option Value)} {kV doc pm cdv ct : Value} (l : K.lookup f = some ⟨oc, od, .func (PySem.W.fnOf x qual (defArgs st) (defBody st) (defScope st) .none kV doc pm an cdv ct), osl⟩)
    (c : PySem.W.codeIn K cdv qual = true) (k : PySem.W.keepIn K (.ref f) = true) : Fun K x qual st f (PySem.W.fnOf x qual (defArgs st) (defBody st) (defScope st) .none kV doc pm an cdv ct) := ⟨⟨oc, od, kV, doc, pm, an, cdv, ct, osl, rfl, l, c⟩, k⟩
end
/-! ### expressions in short: the name that stands in the i-th slot -/
section
variable {X : Cx}
theorem pv (i : Nat) {x : Str} {pos : Pos} (hN : X.N[i]? = some x := by rfl) (hv : Vis X.env.scope x := by first | exact Or.inl rfl | exact Or.inr (Or.inl rfl) | exact Or.inr (Or.inr rfl)) (hd : (x == ("__debug__" : Str)) = false := by decide)
    (hcd : (x == ("__classdict__" : Str)) = false := by decide) : PE X (.Name x pos) (tVar i) := pe_var hN hv hd hcd
end

/-! ### tests -/
theorem iteF {A B : Prop} (h : B) : if false = true then A else B := by
  rw [if_neg Bool.false_ne_true]
  exact h
theorem iteT {A B : Prop} (h : A) : if true = true then A else B := by
  rw [if_pos rfl]
  exact h
theorem ite2 {c A B : Prop} [Decidable c] (h1 : c → A) (h2 : ¬ c → B) : if c then A else B := by
  by_cases h : c
  · rw [if_pos h]
    exact h1 h
  · rw [if_neg h]
    exact h2 h
theorem iteNS {c A B : Prop} [Decidable c] (hc : c) (h : B) : if (!decide c) = true then A else B := by
  rw [decide_eq_true hc]
  exact iteF h

/-! ### heaps -/
/-- all that was tracked is as it was -/
def Same (H H' : Hp) : Prop := ∀ b o, H b = some o → H' b = some o
theorem Same.refl (H : Hp) : Same H H := fun _ _ h => h
theorem Same.trans {H H1 H2 : Hp} (a : Same H H1) (b : Same H1 H2) : Same H H2 := fun c o h => b c o (a c o h)
theorem Same.free {H H' : Hp} (e : Same H H') {l : Addr} (h : H' l = Option.none) : H l = Option.none := by
  cases q : H l with
  | none => rfl
  | some o =>
    rw [e l o q] at h
    cases h
theorem Same.seq {K : PySem.W.Frag} {H H' : Hp} {a : Addr} {xs : List V} (e : Same H H') (h : SqL K H a xs) : SqL K H' a xs := by
  rcases h with (h | ⟨o, h⟩) | h
  · exact .inl (.inl (e _ _ h))
  · exact .inl (.inr ⟨o, e _ _ h⟩)
  · exact .inr h

end L2
end
section
/-! COMPREHENSIONS over the hand layer: the block as a context of its own. -/
namespace L2
open PySem PySem.Spec PyProof.Rows
set_option maxHeartbeats 4000000
set_option Elab.async false
set_option linter.unusedVariables false

/-! ### the names of a block -/
theorem relab_free {env : Env} : ∀ {ns : List (Str × NameKind)} {x : Str}, ns.lookup x = some .free →
    (ns.map fun (n, k) => if (k == NameKind.free && env.scope.kind == .function && env.kindOf n == some .cell) then (n, NameKind.cell) else (n, k)).lookup x = some .cell ∨
    (ns.map fun (n, k) => if (k == NameKind.free && env.scope.kind == .function && env.kindOf n == some .cell) then (n, NameKind.cell) else (n, k)).lookup x = some .free
  | [], _, h => by simp at h
  | (n, k) :: r, x, h => by
    rw [List.map_cons]
    by_cases e : (x == n) = true
    · rw [List.lookup_cons, e] at h
      have hk : k = .free := by simpa using h
      subst hk
      by_cases q : (NameKind.free == NameKind.free && env.scope.kind == .function && env.kindOf n == some .cell) = true
      · left; dsimp only; rw [if_pos q, List.lookup_cons, e]
      · right; dsimp only; rw [if_neg q, List.lookup_cons, e]
    · have e' : (x == n) = false := by simpa using e
      rw [List.lookup_cons, e'] at h
      have ih := relab_free (env := env) h
      dsimp only
      split <;> (rw [List.lookup_cons, e']; exact ih)
theorem relab_back {env : Env} : ∀ {ns : List (Str × NameKind)} {x : Str} {k : NameKind}, (∀ y ∈ ns, y.2 ≠ .cell) → (k = .cell ∨ k = .free) →
    (ns.map fun (n, k) => if (k == NameKind.free && env.scope.kind == .function && env.kindOf n == some .cell) then (n, NameKind.cell) else (n, k)).lookup x = some k → (x, NameKind.free) ∈ ns
  | [], _, _, _, _, h => by simp at h
  | (n, k') :: r, x, k, nc, hk, h => by
    rw [List.map_cons] at h
    have ih := relab_back (env := env) (ns := r) (x := x) (k := k) (fun y hy => nc y (List.mem_cons_of_mem _ hy)) hk
    by_cases e : (x == n) = true
    · have ex : x = n := by simpa using e
      subst ex
      by_cases q : (k' == NameKind.free && env.scope.kind == .function && env.kindOf x == some .cell) = true
      · have : k' = .free := by
          cases k' <;> first | rfl | (simp at q)
        subst this
        exact List.mem_cons_self
      · dsimp only at h
        rw [if_neg q, List.lookup_cons, e] at h
        have : k' = k := by simpa using h
        subst this
        rcases hk with z | z
        · exact absurd z (nc (x, k') List.mem_cons_self)
        · subst z; exact List.mem_cons_self
    · have e' : (x == n) = false := by simpa using e
      refine List.mem_cons_of_mem _ (ih ?_)
      dsimp only at h
      split at h <;> (rw [List.lookup_cons, e'] at h; exact h)

/-! ### what a block closes over -/
theorem clos_step {env : Env} : ∀ (ns : List (Str × NameKind)) (acc : List (Str × Addr)), (∀ y ∈ ns, y.2 = .free → ∃ c, env.cells.lookup y.1 = some c) →
    (∀ x c, acc.lookup x = some c → env.cells.lookup x = some c) →
    ∃ cl : List (Str × Addr), (forIn ns acc fun x r => (match x with | (name, kind) => if (kind == NameKind.free) = true then do let c ← cellOf env name; pure (ForInStep.yield ((name, c) :: r)) else pure (ForInStep.yield r) : Sem (ForInStep (List (Str × Addr)))) : Sem (List (Str × Addr))) = pure cl ∧
      (∀ x c, cl.lookup x = some c → env.cells.lookup x = some c) ∧ (∀ x, (x, NameKind.free) ∈ ns → ∃ c, cl.lookup x = some c) ∧ ∀ x c, acc.lookup x = some c → ∃ c', cl.lookup x = some c'
  | [], acc, _, hacc => ⟨acc, rfl, hacc, fun _ h => absurd h (by simp), fun x c h => ⟨c, h⟩⟩
  | (n, k) :: r, acc, hfr, hacc => by
    by_cases q : (k == NameKind.free) = true
    · have hk : k = .free := by cases k <;> first | rfl | (simp at q)
      subst hk
      obtain ⟨c, hc⟩ := hfr (n, .free) List.mem_cons_self rfl
      have hof : cellOf env n = pure c := by unfold cellOf; rw [hc]
      obtain ⟨cl, h1, h2, h3, h4⟩ := clos_step (env := env) r ((n, c) :: acc) (fun y hy => hfr y (List.mem_cons_of_mem _ hy)) (fun x c' h => by
        by_cases e : (x == n) = true
        · have ex : x = n := by simpa using e
          subst ex
          rw [List.lookup_cons, e] at h
          have : c = c' := by simpa using h
          rw [← this]; exact hc
        · have e' : (x == n) = false := by simpa using e
          rw [List.lookup_cons, e'] at h
          exact hacc x c' h)
      refine ⟨cl, ?_, h2, fun x hx => ?_, fun x c' h => ?_⟩
      · rw [List.forIn_cons]
        dsimp only
        rw [if_pos q, hof]
        exact h1
      · rcases List.mem_cons.mp hx with e | e
        · cases e
          exact h4 n c (by simp)
        · exact h3 x e
      · by_cases e : (x == n) = true
        · have ex : x = n := by simpa using e
          subst ex
          exact h4 x c (by simp)
        · have e' : (x == n) = false := by simpa using e
          exact h4 x c' (by rw [List.lookup_cons, e']; exact h)
    · obtain ⟨cl, h1, h2, h3, h4⟩ := clos_step (env := env) r acc (fun y hy => hfr y (List.mem_cons_of_mem _ hy)) hacc
      refine ⟨cl, ?_, h2, fun x hx => ?_, h4⟩
      · rw [List.forIn_cons]
        dsimp only
        rw [if_neg q]
        exact h1
      · rcases List.mem_cons.mp hx with e | e
        · cases e
          exact absurd rfl q
        · exact h3 x e
theorem clos_of {env : Env} {scope : Scope} (hfr : ∀ y ∈ scope.names, y.2 = .free → ∃ c, env.cells.lookup y.1 = some c) :
    ∃ cl : List (Str × Addr), closureFor scope env = pure cl ∧ (∀ x c, cl.lookup x = some c → env.cells.lookup x = some c) ∧ ∀ x, (x, NameKind.free) ∈ scope.names → ∃ c, cl.lookup x = some c := by
  obtain ⟨cl, h1, h2, h3, _⟩ := clos_step (env := env) scope.names [] hfr (fun x c h => by simp at h)
  refine ⟨cl, ?_, h2, h3⟩
  unfold closureFor
  dsimp only
  rw [h1]
  rfl

/-! ### the block -/
/-- the outer names' values, behind nt targets -/
def inner (nt : Nat) (js : List Nat) (σ : St) : St := List.replicate nt none ++ js.map fun j => (σ[j]?).join
/-- the context of the block -/
def blk (X : Cx) (N : List Str) (scope : Scope) (cl : List (Str × Addr)) (C : Addr) (s : Shared) (H : Hp) (fp : List Addr) : Cx :=
  { X with N := N, s₀ := s, H₀ := H, env := compEnvC scope cl C X.env, outer := X.stack, ex := fp, fn := fun _ => false, pn := [], xe := fun _ _ => False }
/-- what a block asks of the two scopes: sc the outer one, N0 the outer names -/
structure Blk (sc : Scope) (N0 : List Str) (N : List Str) (nt : Nat) (js : List Nat) (scope : Scope) : Prop where
  kind : scope.kind = .function
  loc : ∀ y ∈ scope.names, y.2 = .local → scope.names.lookup y.1 = some .local
  nocell : ∀ y ∈ scope.names, y.2 ≠ .cell
  cap : ∀ y ∈ scope.names, y.2 = .free → sc.names.lookup y.1 = some .cell ∨ sc.names.lookup y.1 = some .free
  len : N.length = nt + js.length
  out : N.drop nt = js.map fun j => N0.getD j ""
  js : ∀ j ∈ js, j < N0.length
  fr : ∀ x ∈ N.drop nt, scope.names.lookup x = some .free
  nd : N.Nodup

theorem inner_get {nt : Nat} {js : List Nat} {σ : St} {i : Nat} {v : V} (h : (inner nt js σ)[i]? = some (some v)) : ∃ k j, i = nt + k ∧ js[k]? = some j ∧ σ[j]? = some (some v) := by
  unfold inner at h
  by_cases hi : i < nt
  · rw [List.getElem?_append_left (by simpa using hi), List.getElem?_replicate, if_pos hi] at h
    cases h
  · rw [List.getElem?_append_right (by simpa using hi), List.length_replicate, List.getElem?_map] at h
    cases e : js[i - nt]? with
    | none => rw [e] at h; cases h
    | some j =>
      rw [e] at h
      refine ⟨i - nt, j, by omega, e, ?_⟩
      have h' : (σ[j]?).join = some v := by simpa using h
      cases e2 : σ[j]? with
      | none => rw [e2] at h'; cases h'
      | some o => rw [e2] at h'; cases o with
        | none => cases h'
        | some w => have : w = v := by simpa using h'
                    rw [this]

section
variable {X : Cx} {pins : List (Addr × Obj)} {σ : St} {H : Hp} {s : Shared} {N : List Str} {nt : Nat} {js : List Nat} {scope : Scope} {cl : List (Str × Addr)} {fp : List Addr}
theorem blk_start {h' : Heap} {tk : Nat} (I : Inv X pins σ H s) (B : Blk X.env.scope X.N N nt js scope)
    (c1 : ∀ x c, cl.lookup x = some c → X.env.cells.lookup x = some c) (c2 : ∀ x, (x, NameKind.free) ∈ scope.names → ∃ c, cl.lookup x = some c)
    (hf : ∀ b ∈ fp, FpOk X pins H b) (hlt : ∀ b ∈ fp, b < s.heap.objs.size)
    (kp : ∀ b o, s.heap.get? b = some o → h'.get? b = some o) (hC : h'.Ns (s.heap.objs.size + 1) fun _ => none)
    (hD : h'.get? s.heap.objs.size = some { cls := .type "list", data := .seq ([] : List Value).toArray 0 }) :
    Inv (blk X N scope cl (s.heap.objs.size + 1) s H fp) [] (inner nt js σ) (upd H s.heap.objs.size (.lst [])) { s with heap := h', toks := tk } := by
  have hfr : ∀ a, s.heap.objs.size ≤ a → H a = none := fun a ha => I.hok.fresh ha
  have cold : ∀ x c, X.env.cells.lookup x = some c → c < s.heap.objs.size := fun x c e => by
    obtain ⟨v, q⟩ := I.cell x c e
    exact q.lt
  refine ⟨⟨I.ok.mod, B.kind, I.ok.glob, I.ok.blt, Nat.le_succ _, fun x y c a b => I.ok.inj x y c (c1 x c a) (c1 y c b), fun x hx => ?_, fun x c z _ => absurd z Bool.false_ne_true, I.ok.hd, I.ok.frames, .inl rfl, fun b hb => ?_, I.bs, Nat.le_trans I.ok.bsz I.sz, fun b o e hb => ?_, fun b hb z => ?_, I.stack, I.stkFree⟩,
    rfl, I.bare, Un.laid kp (Nat.le_refl _) (hfr _ (Nat.le_refl _)), ⟨_, hC, fun i x v h1 h2 h3 => ?_⟩, fun x c e => ?_, ?_, fun x c e => ?_, fun p hp => absurd (show p ∈ ([] : List (Addr × Obj)) from hp) (by simp), I.hok.laid kp (Nat.le_refl _) ⟨Nat.zero_le _, [], 0, .nil, hD⟩, ?_⟩
  · have : (x, NameKind.free) ∈ scope.names := hx.elim (fun z => relab_back B.nocell (.inl rfl) z) fun z => relab_back B.nocell (.inr rfl) z
    exact c2 x this
  · refine ⟨Nat.ne_of_lt (Nat.lt_succ_of_lt (hlt b hb)), fun x c e => (hf b hb).2.2.2.2.1 x c (c1 x c e)⟩
  · rcases (hf b hb).2.2.2.1 with z | z
    · exact I.ok.noex b o e z
    · exact absurd (Nat.lt_of_lt_of_le (Heap.lt_size (I.ok.bs b o e).1) z) (Nat.lt_irrefl _)
  · rcases List.mem_cons.mp (I.stkSub b z) with q | q
    · exact (hf b hb).2.1 q
    · exact (hf b hb).2.2.1 q
  · obtain ⟨k, j, rfl, hk, hv⟩ := inner_get h2
    have hkl : k < js.length := (List.getElem?_eq_some_iff.mp hk).1
    have h1' : (N.drop nt)[k]? = some x := by rw [List.getElem?_drop]; exact h1
    have hxm : x ∈ N.drop nt := List.mem_of_getElem? h1'
    have hfree : scope.names.lookup x = some .free := B.fr x hxm
    have hj : X.N[j]? = some x := by
      rw [B.out, List.getElem?_map, hk] at h1'
      have hjl : j < X.N.length := B.js j (List.mem_of_getElem? hk)
      rw [List.getElem?_eq_getElem hjl]
      have e : X.N.getD j "" = x := by simpa using h1'
      rw [← e]
      simp [List.getD_eq_getElem?_getD, List.getElem?_eq_getElem hjl]
    have hcap := B.cap _ (PySem.mem_of_lookup hfree) rfl
    obtain ⟨m, hn, hl⟩ := I.loc
    obtain ⟨u, ru, lk⟩ := hl j x v hj hv (hcap.elim (fun z => .inr (.inl z)) fun z => .inr (.inr z))
    refine ⟨u, ru, .inr ⟨relab_free hfree, ?_⟩⟩
    rcases lk with ⟨z, _⟩ | ⟨_, c, e, q⟩
    · exact absurd (show X.env.scope.names.lookup x = some .local from z) (by rcases hcap with y | y <;> (rw [y]; decide))
    · obtain ⟨c', e'⟩ := c2 x (PySem.mem_of_lookup hfree)
      have ec := c1 x c' e'
      rw [e] at ec
      cases ec
      obtain ⟨o, ho, hd⟩ := q
      exact ⟨c, e', o, kp c o ho, hd⟩
  · obtain ⟨v, o, ho, hd⟩ := I.cell x c (c1 x c e)
    exact ⟨v, o, kp c o ho, hd⟩
  · show upd H _ _ (s.heap.objs.size + 1) = none
    rw [upd_ne (Nat.ne_of_gt (Nat.lt_succ_self _))]
    exact hfr _ (Nat.le_succ _)
  · show upd H _ _ c = none
    rw [upd_ne (Nat.ne_of_lt (cold x c (c1 x c e)))]
    exact I.freeC x c (c1 x c e)
  · show (inner nt js σ).length = N.length
    unfold inner
    rw [List.length_append, List.length_replicate, List.length_map, B.len]
end

/-! ### the tests of a clause -/
def PTs (X : Cx) (ifs : List Expr) (t : TT) : Prop :=
  ∀ (pins : List (Addr × Obj)) (s : Shared) (σ : St) (H : Hp) (Q : Bool → Hp → Prop), Inv X pins σ H s → t σ H Q →
    wpAny (model X.prog X.w) X.A (forIn ifs true fun c r => if r = true then do let ok ← isTrue c X.env (eval c X.env); pure (ForInStep.yield ok) else pure (ForInStep.yield r)) (TP X pins σ Q) X.xe s
def tYes : TT := fun _ H Q => Q true H
theorem pts_nil {X : Cx} : PTs X [] tYes := fun _ _ _ H _ I h => wpAny_tests_nil ⟨H, I, h⟩
theorem pts_one {X : Cx} {c : Expr} {t : TT} (h : PT X c t) : PTs X [c] t := fun pins s σ H Q I q => wpAny_tests_one (h pins s σ H Q I q)

/-! ### the loop -/
section
variable {prog : Program} {w : World} {A : Around} {s : Shared} {R : Result → Shared → Prop}
theorem comp_turns {elt tg iter : Expr} {ifs : List Expr} {scope : Scope} {pos : Pos} {it acc : Value} {env : Env} (J : Nat → Shared → Prop)
    (turn : ∀ n s, J n s → wpAny (model prog w) A (pyNext it) (fun r s1 => match r with
      | none => R (.ok .next) s1
      | some v => wpAny (model prog w) A (letOwnedTupleGo tg it v) (fun _ s2 => wpAny (model prog w) A (assign tg env v) (fun _ s3 =>
          wpAny (model prog w) A (forIn ifs true fun c r => if r = true then do let ok ← isTrue c env (eval c env); pure (ForInStep.yield ok) else pure (ForInStep.yield r)) (fun ok s4 =>
            if ok = true then wpAny (model prog w) A (eval elt env) (fun x s5 => wpAny (model prog w) A (call (.builtin "list.append") [acc, x]) (fun _ s6 => ∃ m, m < n ∧ J m s6) (fun _ _ => False) s5) (fun _ _ => False) s4
            else ∃ m, m < n ∧ J m s4) (fun _ _ => False) s3) (fun _ _ => False) s2) (fun _ _ => False) s1) (fun _ _ => False) s)
    (n : Nat) (h : J n s) : codeAny (model prog w) A (.compLoop (.ListComp elt [⟨tg, iter, ifs, 0⟩] scope pos) 0 it acc env) R s := by
  refine codeAny_loop rfl J (fun k s' hJ => ?_) n h
  show wpAny _ A ((compTurn (.ListComp elt [⟨tg, iter, ifs, 0⟩] scope pos) 0 it acc env).onRaise (fun x => do noteFrame x env; theTreesLotGoes x)) _ _ s'
  refine wpAny_noted ?_
  rw [compTurn_list]
  refine wpAny_bind (wpAny_standAt (wpAny_bind (wpAny_mono (turn k s' hJ) (fun r s1 q1 => ?_) fun _ _ z => z.elim)))
  cases r with
  | none => exact wpAny_pure q1
  | some v =>
    refine wpAny_bind (wpAny_mono q1 (fun _ s2 q2 => wpAny_bind (wpAny_mono q2 (fun _ s3 q3 => wpAny_bind (wpAny_mono q3 (fun ok s4 q4 => ?_) fun _ _ z => z.elim)) fun _ _ z => z.elim)) fun _ _ z => z.elim)
    cases ok with
    | false => exact wpAny_pure ⟨rfl, q4⟩
    | true => exact wpAny_bind (wpAny_bind (wpAny_mono q4 (fun x s5 q5 => wpAny_bind (wpAny_mono q5 (fun _ s6 q6 => wpAny_pure (wpAny_pure ⟨rfl, q6⟩)) fun _ _ z => z.elim)) fun _ _ z => z.elim))
end

/-! ### THE RULE -/
/-- W: the invariant by the turn and a measure; D: the new list -/
def cmpW (J : It) (g : TG) (tt : TT) (te : TE) (Q : VK) (D : Addr) (σ0 : St) (H1 : Hp) : Prop := ∃ W : Nat → Nat → St → Hp → Prop, (∃ m, W 0 m σ0 (upd H1 D (.lst []))) ∧
  ∀ i m σ' H', W i m σ' H' → (J.stop i H' ∧ Q (.ref D) H') ∨ (J.go i H' ∧ ∀ x H2, J.yld i H' x H2 → g x σ' H2 fun σ3 H3 => tt σ3 H3 fun ok H4 =>
    if ok = true then te σ3 H4 fun y H5 => ∃ ys, H5 D = some (.lst ys) ∧ ys.length < sizeLine ∧ ∃ m', m' < m ∧ W (i + 1) m' σ3 (upd H5 D (.lst (ys ++ [y]))) else ∃ m', m' < m ∧ W (i + 1) m' σ3 H4)
def tComp (nt : Nat) (js : List Nat) (wi : TI) (g : TG) (tt : TT) (te : TE) : TE := fun σ H Q => wi σ H fun J H1 => ∀ D, H1 D = none → cmpW J g tt te Q D (inner nt js σ) H1
theorem pe_comp {X : Cx} {elt tg iter : Expr} {ifs : List Expr} {scope : Scope} {pos : Pos} {N : List Str} {nt : Nat} {js : List Nat} {sc : Scope} {N0 : List Str} {wi : TI} {g : TG} {tt : TT} {te : TE}
    (hc : X.calm = true) (hsc : X.env.scope = sc) (hN : X.N = N0) (B : Blk sc N0 N nt js scope) (hi : PI X tg iter wi)
    (hg : ∀ cl C s H fp, PG (blk X N scope cl C s H fp) tg g) (ht : ∀ cl C s H fp, PTs (blk X N scope cl C s H fp) ifs tt) (he : ∀ cl C s H fp, PE (blk X N scope cl C s H fp) elt te)
    (hs : ∀ x, foldedSetIterable iter X.env x = pure x := by intro _; rfl) : PE X (.ListComp elt [⟨tg, iter, ifs, 0⟩] scope pos) (tComp nt js wi g tt te) := by
  subst hsc hN
  intro pins s σ H Q I h
  obtain ⟨cl, hcl, c1, c2⟩ := clos_of (env := X.env) (scope := scope) fun y hy hk => I.ok.has y.1 (B.cap y hy hk)
  rw [eval_ListComp]
  refine wpAny_comprehension_free (use := none) rfl hs hcl B.kind B.loc (thn (hi pins s σ H _ I h) fun v s1 q1 => thn q1 fun itv s2 q2 => ?_)
  obtain ⟨it, fp, tn, J, H2, e, I2, T, st2, f2, q2⟩ := q2
  subst e
  obtain ⟨W, ⟨m0, w0⟩, turn⟩ := q2 s2.heap.objs.size (I2.hok.fresh (Nat.le_refl _))
  have hlt : ∀ b ∈ fp, b < s2.heap.objs.size := fun b hb => by
    obtain ⟨o, eo, _⟩ := T.obj _ _ st2 b hb
    exact Heap.lt_size eo
  refine wpAny_newObj_type (wpAny_newFunctionEnv B.nocell (by intro y hy; simp at hy) (fun h1 hns hsb => ?_) B.kind)
  dsimp only at hns hsb ⊢
  have hsz : (s2.heap.push { cls := .type "list", dict := none, data := .seq ([] : List Value).toArray }).objs.size = s2.heap.objs.size + 1 := by rw [Heap.size_push]
  have old : ∀ b o, s2.heap.get? b = some o → h1.get? b = some o := fun b o eb => hsb.extBut b o (by rw [hsz]; exact Nat.ne_of_lt (Nat.lt_succ_of_lt (Heap.lt_size eb))) (Heap.get?_push_of_some _ (Heap.get?_push_of_some _ eb))
  have hD : h1.get? s2.heap.objs.size = some { cls := .type "list", data := .seq ([] : List Value).toArray 0 } := hsb.extBut _ _ (by rw [hsz]; exact Nat.ne_of_lt (Nat.lt_succ_self _)) (Heap.get?_push_of_some _ (Heap.get?_push_size _ rfl))
  rw [hsz] at hns
  have I3 := blk_start (cl := cl) (fp := fp) (tk := s2.toks + ([] : List (Str × Value)).length) I2 B c1 c2 f2 hlt old (show h1.Ns (s2.heap.objs.size + 1) fun _ => none from hns) hD
  have stat : ∀ {H' : Hp}, (∀ b ∈ fp, H' b = none) → ∀ b ∈ fp, FpOk (blk X N scope cl (s2.heap.objs.size + 1) s2 H2 fp) [] H' b := fun {H'} hn b hb =>
    ⟨hn b hb, Nat.ne_of_lt (Nat.lt_succ_of_lt (hlt b hb)), fun z => (List.mem_cons.mp (I2.stkSub b z)).elim (f2 b hb).2.1 (f2 b hb).2.2.1, .inl hb, fun x c ec => (f2 b hb).2.2.2.2.1 x c (c1 x c ec), fun p hp => absurd (show p ∈ ([] : List (Addr × Obj)) from hp) (by simp)⟩
  have fin : ∀ {i : Nat} {σ' : St} {H' : Hp} {s' : Shared}, Inv (blk X N scope cl (s2.heap.objs.size + 1) s2 H2 fp) [] σ' H' s' → Q (.ref s2.heap.objs.size) H' →
      compPost (model X.prog X.w) X.A X.xe none (EP X pins σ Q) (.ref s2.heap.objs.size) (s2.heap.objs.size + 1) (.ok .next) s' := fun {i σ' H' s'} Ib q => by
    obtain ⟨m, hn, _⟩ := id Ib.loc
    refine ⟨m, hn, fun h'' hs'' => ?_⟩
    have I4 : Inv X pins σ H' s' := I2.call' Ib.os Ib.base Ib.hok Ib.bare fun b hb => ⟨(f2 b hb).2.2.2.1, (f2 b hb).2.1, (f2 b hb).2.2.2.2.1, (f2 b hb).2.2.2.2.2⟩
    obtain ⟨g0, g1, g2, g3, g4, g5⟩ := I2.fpOk (H' := H') (Nat.le_succ _) Ib.free
    exact ⟨.ref s2.heap.objs.size, H', I4.turned (t' := s'.toks) (fun b o hb eb => hs''.extBut b o hb eb) g0 g1 g3 g4 g5, rfl, q⟩
  have loop : codeAny (model X.prog X.w) X.A (.compLoop (.ListComp elt [⟨tg, iter, ifs, 0⟩] scope pos) 0 (.ref it) (.ref s2.heap.objs.size) (compEnvC scope cl (s2.heap.objs.size + 1) X.env))
      (compPost (model X.prog X.w) X.A X.xe none (EP X pins σ Q) (.ref s2.heap.objs.size) (s2.heap.objs.size + 1)) { s2 with heap := h1, toks := s2.toks + ([] : List (Str × Value)).length } := by
    refine comp_turns (fun n s' => ∃ i σ' H', Inv (blk X N scope cl (s2.heap.objs.size + 1) s2 H2 fp) [] σ' H' s' ∧ tn i s'.heap ∧ (∀ b ∈ fp, H' b = none) ∧ W i n σ' H') ?_ m0
      ⟨0, _, _, I3, T.keep _ _ _ st2 fun b _ o eb => old b o eb, fun b hb => ?_, w0⟩
    · rintro n s3 ⟨i, σ3, H3, J3, st3, fr3, w3⟩
      rcases turn i n σ3 H3 w3 with ⟨stop, qn⟩ | ⟨go, step⟩
      · refine thn (T.done (blk X N scope cl (s2.heap.objs.size + 1) s2 H2 fp) rfl rfl rfl hc i [] s3 σ3 H3 _ J3 (stat fr3) st3 stop) fun r s4 ⟨hr, I4⟩ => ?_
        subst hr
        exact fin (i := i) I4 qn
      · refine thn (T.item (blk X N scope cl (s2.heap.objs.size + 1) s2 H2 fp) rfl rfl rfl hc i [] s3 σ3 H3 _ J3 (stat fr3) st3 go) fun r s4 ⟨u, hr, h4⟩ => ?_
        subst hr
        refine thn h4 fun _ s5 ⟨x, H5, I5, r5, y5, st5, fr5⟩ => ?_
        have I5' := I5.pinned (stat fr5) (T.obj _ _ st5)
        refine thn (hg _ _ _ _ _ _ s5 σ3 H5 x u _ I5' r5 (step x H5 y5)) fun _ s6 ⟨σ6, H6, I6, q6⟩ => ?_
        have again : ∀ {σ7 : St} {H7 : Hp} {s7 : Shared} {k : Nat}, Inv (blk X N scope cl (s2.heap.objs.size + 1) s2 H2 fp) ([] ++ pinsAt fp s5.heap) σ7 H7 s7 → k < n → W (i + 1) k σ7 H7 →
            ∃ k, k < n ∧ ∃ i σ' H', Inv (blk X N scope cl (s2.heap.objs.size + 1) s2 H2 fp) [] σ' H' s7 ∧ tn i s7.heap ∧ (∀ b ∈ fp, H' b = none) ∧ W i k σ' H' := fun {σ7 H7 s7 k} I7 hk w7 => by
          refine ⟨k, hk, i + 1, σ7, H7, I7.unpinned, T.keep _ _ _ st5 fun b hb o eb => (I7.pin (b, o) (List.mem_append_right _ (List.mem_append_right _ (mem_pinsAt hb eb)))).1, fun b hb => ?_, w7⟩
          obtain ⟨o, eb, _⟩ := T.obj _ _ st5 b hb
          exact (I7.pin (b, o) (List.mem_append_right _ (List.mem_append_right _ (mem_pinsAt hb eb)))).2.1
        refine thn (ht _ _ _ _ _ _ s6 σ6 H6 _ I6 q6) fun ok s7 ⟨H7, I7, q7⟩ => ?_
        cases ok with
        | false =>
          rw [if_neg Bool.false_ne_true] at q7 ⊢
          obtain ⟨k, hk, w7⟩ := q7
          exact again I7 hk w7
        | true =>
          rw [if_pos rfl] at q7 ⊢
          refine thn (he _ _ _ _ _ _ s7 σ6 H7 _ I7 q7) fun y s8 ⟨v8, H8, I8, r8, ys, e8, z8, k, hk, w8⟩ => ?_
          refine thn (mt_append _ s8 σ6 H8 (.ref s2.heap.objs.size) [v8] _ [y] (fun _ H9 => W (i + 1) k σ6 H9) I8 rfl (.cons r8 .nil) ⟨_, ys, v8, rfl, rfl, e8, z8, w8⟩) fun _ s9 ⟨_, H9, I9, _, w9⟩ => ?_
          exact again I9 hk w9
    · show upd H2 _ _ b = none
      rw [upd_ne (Nat.ne_of_lt (hlt b hb))]
      exact (f2 b hb).1
  rw [hsz]
  exact codeAny_compStart_list loop (T.self _ 0 _ _ _ (T.keep _ _ _ st2 fun b _ o eb => old b o eb) loop)
end L2
end
section
/-! SMALL RULES over the hand layer. -/
namespace L2
open PySem PySem.Spec PyProof.Rows
set_option maxHeartbeats 4000000
set_option Elab.async false
set_option linter.unusedVariables false

section
variable {X : Cx}
/-! ### is True, is False -/
/-! ### isinstance of a built-in type -/
/-- what a value is, by the abstract heap -/
inductive Kn (H : Hp) : V → String → Prop where
  | non : Kn H .non "NoneType"
  | bl (b : Bool) : Kn H (.bl b) "bool"
  | int (i : Int) : Kn H (.int i) "int"
  | str (x : Str) : Kn H (.str x) "str"
  | lst {a : Addr} {xs : List V} (e : H a = some (.lst xs)) : Kn H (.ref a) "list"
  | tup {a : Addr} {xs : List V} (e : H a = some (.tup xs)) : Kn H (.ref a) "tuple"
  | dK {a : Addr} {kvs : List (Key × V)} (e : H a = some (.dK kvs)) : Kn H (.ref a) "dict"
theorem Kn.ty {K : PySem.W.Frag} {H : Hp} {v : V} {T : String} (h : Kn H v T) : TyOf K H v (.type T) := by
  cases h with
  | non => exact .non
  | bl b => exact .bl b
  | int i => exact .int i
  | str x => exact .str x
  | lst e => exact .lst e
  | tup e => exact .tup e
  | dK e => exact .dK e
def subT (T U : String) : Bool := T == U || (T == "bool" && U == "int")
theorem kit_int {K : PySem.W.Frag} {H : Hp} {v : V} {T : String} (h : Kn H v T) : PySem.W.kitOne K (.type T) (.type "int") = some (subT T "int") := by
  cases h <;> rfl
theorem kit_bool {K : PySem.W.Frag} {H : Hp} {v : V} {T : String} (h : Kn H v T) : PySem.W.kitOne K (.type T) (.type "bool") = some (subT T "bool") := by
  cases h <;> rfl
theorem kit_tuple {K : PySem.W.Frag} {H : Hp} {v : V} {T : String} (h : Kn H v T) : PySem.W.kitOne K (.type T) (.type "tuple") = some (subT T "tuple") := by
  cases h <;> rfl
theorem kit_list {K : PySem.W.Frag} {H : Hp} {v : V} {T : String} (h : Kn H v T) : PySem.W.kitOne K (.type T) (.type "list") = some (subT T "list") := by
  cases h <;> rfl
theorem call_isi : CallR X (.builtin "isinstance") (fun xs H Q => ∃ x T U, xs = [x, .ty U] ∧ Kn H x T ∧ (U = "int" ∨ U = "bool" ∨ U = "tuple" ∨ U = "list") ∧ Q (.bl (subT T U)) H) := by
  intro pins s σ H xs us Q I r h
  obtain ⟨x, T, U, rfl, hk, hU, q⟩ := h
  obtain ⟨u, c, rfl, rx, rc⟩ := vals2 r
  cases (show c = Value.type U from rc)
  refine isinst_ok I rx hk.ty (b := subT T U) ?_ fun tk => ⟨.bl (subT T U), H, I.tok tk, rfl, q⟩
  rcases hU with rfl | rfl | rfl | rfl
  · exact kit_int hk
  · exact kit_bool hk
  · exact kit_tuple hk
  · exact kit_list hk

/-! ### all of a list of bools -/
theorem call_allB (hc : X.calm = true) : CallR X (.builtin "all") (fun xs H Q => ∃ (p : Addr) (bs : List Bool), xs = [.ref p] ∧ SqL X.K H p (bs.map V.bl) ∧ Q (.bl (bs.all id)) H) := by
  intro pins s σ H xs us Q I r h
  obtain ⟨p, bs, rfl, hq, q⟩ := h
  obtain ⟨u, rfl, rx⟩ := vals1 r
  cases (show u = Value.ref p from rx)
  obtain ⟨its, r', pl, hz⟩ := I.list hq
  have hsz : its.length = bs.length := by have := r'.length; rw [List.length_map] at this; exact this.symm
  refine call_all_walk (wpAny_pyIter_list pl.isList ?_)
  have hne : p ≠ s.heap.objs.size := by
    obtain ⟨o, ho, _⟩ := pl.isList
    exact Nat.ne_of_lt (Heap.lt_size ho)
  refine ⟨_, _, _, its.toArray.size, _, _, fun i => bs.getD i true, rfl, Walks.list (A := X.A.in1) (show X.A.in1.handled = none from I.ok.hd hc) s.heap.objs.size p hne its.toArray, ⟨⟨_, Heap.get?_push_size _ rfl, rfl, rfl⟩, pl.isList.push _⟩, ?_, ?_⟩
  · intro i v s' Q' E' hP hQ
    have hv : its[i]? = some v := by simpa using hP
    have hi : i < its.length := (List.getElem?_eq_some_iff.mp hv).1
    have hb : (bs.map V.bl)[i]? = some (V.bl (bs.getD i true)) := by
      rw [List.getElem?_map, List.getElem?_eq_getElem (by omega)]
      simp [List.getD_eq_getElem?_getD, List.getElem?_eq_getElem (show i < bs.length by omega)]
    obtain ⟨w', hw, rw'⟩ := r'.get hb
    rw [hv] at hw
    cases hw
    cases (show v = Value.bool _ from rw')
    exact wpAny_truthy_bool hQ
  · intro h' tk hk
    have e : (List.range its.toArray.size).all (fun i => bs.getD i true) = bs.all id := by
      rw [List.size_toArray, hsz]
      rw [Bool.eq_iff_iff, List.all_eq_true, List.all_eq_true]
      constructor
      · intro h1 x hx
        obtain ⟨i, hi, rfl⟩ := List.getElem_of_mem hx
        have := h1 i (List.mem_range.mpr hi)
        rw [List.getD_eq_getElem?_getD, List.getElem?_eq_getElem hi] at this
        exact this
      · intro h1 i hi
        have hi' := List.mem_range.mp hi
        rw [List.getD_eq_getElem?_getD, List.getElem?_eq_getElem hi']
        exact h1 _ (List.getElem_mem hi')
    rw [e]
    refine ⟨.bl (bs.all id), H, I.kept (t' := tk) fun b o eb => hk b o (fun z => ?_) (Heap.get?_push_of_some _ eb), rfl, q⟩
    have : b = s.heap.objs.size := by simpa using z
    exact absurd (Heap.lt_size eb) (by rw [this]; exact Nat.lt_irrefl _)

/-! ### t + u of any tuples -/
def rCatA (K : PySem.W.Frag) : R2 := fun x y H Q => ∃ a b xs ys, x = .ref a ∧ y = .ref b ∧ H a = some (.tup xs) ∧ H b = some (.tup ys) ∧ xs.length + ys.length ≤ sizeLine ∧
  ∀ p H', Same H H' → H' p = some (.tup (xs ++ ys)) → Q (.ref p) H'
theorem same_new {H : Hp} {p : Addr} (h : H p = none) (o : HO) : Same H (upd H p o) := fun b u q => by rw [upd_ne (ne_of_none q h)]; exact q
theorem op_catA : OpR X (binaryOp .Add) (rCatA X.K) := by
  intro pins s σ H x y v u Q I rx ry h
  obtain ⟨a, b, xs, ys, rfl, rfl, ha, hb, hz, q⟩ := h
  cases (show v = Value.ref a from rx)
  cases (show u = Value.ref b from ry)
  obtain ⟨its, r1, t1, z1⟩ := I.tuple (SqT.of ha)
  obtain ⟨jts, r2, t2, z2⟩ := I.tuple (SqT.of hb)
  have l1 := r1.length
  have l2 := r2.length
  by_cases hx : its = []
  · subst hx
    have ex : xs = [] := List.length_eq_zero_iff.mp l1
    subst ex
    obtain ⟨⟨cls, dd, data, sl⟩, ho, hc, n, hd⟩ := id t1
    obtain ⟨⟨cls2, dd2, data2, sl2⟩, ho2, hc2, n2, hd2⟩ := id t2
    simp only at hc hd hc2 hd2
    subst hc hd hc2 hd2
    exact concat_meets ⟨_, ho, rfl⟩ ⟨_, ho2, rfl⟩ noFill_tuple_add seq_tuple_add PySem.F.slot_tuple_add PySem.F.entry_tuple_add (PySem.F.args_tuple_add_2 _ _)
      (tuple_addW0 a b ([] : List Value).toArray jts.toArray n n2 dd dd2 sl sl2 rfl) ⟨ho, ho2, ⟨.ref b, H, I, rfl, q b H (Same.refl H) hb⟩⟩
  · refine HT.cat_tup t1 t2 hx (fun e => ?_) (fun e => ?_) (by omega)
    · subst e
      have ey : ys = [] := List.length_eq_zero_iff.mp l2
      subst ey
      exact ⟨.ref a, H, I, rfl, q a H (Same.refl H) (by rw [List.append_nil]; exact ha)⟩
    · have fr := I.hok.fresh (Nat.le_refl s.heap.objs.size)
      refine ⟨.ref s.heap.objs.size, _, I.laid (t' := s.toks) (o := .tup (xs ++ ys)) (fun b ob q => Heap.get?_push_of_some _ q) (Nat.le_refl _) ?_, rfl, q _ _ (same_new fr _) upd_same⟩
      exact ⟨by rw [List.length_append]; exact hz, _, r1.append r2, IsTup.new _ _⟩

/-! ### t[lo:hi], the whole too -/
end

section
variable {prog : Program} {w : World} {A : Around} {E : Value → Shared → Prop} {s : Shared}
end

section
variable {X : Cx}
end
end L2
end
section
/-! zip(a, b) of two lists or two tuples, walked by a loop or a comprehension with a pair as its target.
The built-ins' own code is walked by `wp_walk`; what is said here is what the heap holds behind it. -/
namespace L2
open PySem PySem.Spec PyProof.Rows
set_option maxHeartbeats 4000000
set_option maxRecDepth 100000
set_option Elab.async false
set_option linter.unusedVariables false

/-- an iterator that zip asks, and what it stands upon -/
structure Nx (P : Program) (w : World) (i l : Addr) (pl : Nat → Heap → Prop) (vs : Array Value) : Prop where
  ne : l ≠ i
  there : ∀ k h, pl k h → (∃ o, h.get? i = some o ∧ (∃ c, o.cls = .type c ∧ (c = "list_iterator" ∨ c = "tuple_iterator")) ∧ ∃ f, o.data = .fields f) ∧ ∃ o, h.get? l = some o ∧ (o.cls = .type "list" ∨ o.cls = .type "tuple")
  keep : ∀ k h h', pl k h → (∀ o, h.get? i = some o → h'.get? i = some o) → (∀ o, h.get? l = some o → h'.get? l = some o) → pl k h'
  item : ∀ (A : Around) k (s : Shared) (Q : Value → Shared → Prop) (E : Value → Shared → Prop) x, pl k s.heap → vs[k]? = some x → (∀ h', pl (k + 1) h' → Heap.SameBut i s.heap h' → Q x { s with heap := h' }) →
    wpAny (model P w) A (Builtin.SmallTypes.nextOf (.ref i)) Q E s
  done : ∀ (A : Around) k (s : Shared) (Q : Value → Shared → Prop) (E : Value → Shared → Prop), A.handled = none → pl k s.heap → vs[k]? = none →
    (∀ h' e, Heap.ExtBut i s.heap h' → (∃ o, h'.get? e = some o ∧ o.cls = .type "StopIteration") → E (.ref e) { s with heap := h' }) → wpAny (model P w) A (Builtin.SmallTypes.nextOf (.ref i)) Q E s

theorem nx_list {P : Program} {w : World} {i l : Addr} (vs : Array Value) (hne : l ≠ i) : Nx P w i l (fun k h => h.IsListIter i l k ∧ h.IsList l vs) vs where
  ne := hne
  there := fun k h ⟨⟨o, e, c, d⟩, ⟨o', e', c', _⟩⟩ => ⟨⟨o, e, ⟨_, c, .inl rfl⟩, _, d⟩, o', e', .inl c'⟩
  keep := fun k h h' ⟨a, b⟩ e1 e2 => ⟨a.at e1, b.at e2⟩
  item := fun A k s Q E x ⟨a, b⟩ hx q => wpAny_nextOf_list_item a b hx fun h' a' sb => q h' ⟨a', b.extBut sb.extBut hne⟩ sb
  done := fun A k s Q E hh ⟨a, b⟩ hx q => wpAny_nextOf_list_end hh a b hx q

/-! ### a tuple's iterator -/
/-- one more item: the code walked -/
theorem tn_item (it t : Addr) (i : Nat) (dc : Option Addr) (sl : Array (Option Value)) (items : Array Value) (x : Value) (hx : items[i]? = some x) :
    Meets (Builtin.«tuple_iterator.__next__» ⟨[.ref it], []⟩) (fun _ R s => s.heap.get? it = some ⟨.type "tuple_iterator", dc, .fields #[.ref t, .int i 0], sl⟩ ∧ s.heap.IsTuple t items ∧
      ∀ h', h'.IsTupleIter it t (i + 1) → Heap.SameBut it s.heap h' → R (.ok (.ret x)) { s with heap := h' }) :=
  .of_wp fun prog w A R s h => by
    obtain ⟨hp, g, d, tk, os⟩ := s
    obtain ⟨h1, ⟨⟨c, dc2, dt, sl2⟩, h2, hc, n, hd⟩, h⟩ := h
    simp only at hc hd
    subst hc hd
    simp only at h1 h2
    wp_walk
    rw [Int.toNat_natCast, hx]
    wp_walk
    exact ⟨_, rfl, h _ ⟨_, Heap.get?_update_self _ h1 rfl, rfl, rfl⟩ (.update ..)⟩
/-- no more items -/
theorem tn_end (it t : Addr) (i : Nat) (dc : Option Addr) (sl : Array (Option Value)) (items : Array Value) (hx : items[i]? = none) :
    Meets (Builtin.«tuple_iterator.__next__» ⟨[.ref it], []⟩) (fun A R s => A.handled = none ∧ s.heap.get? it = some ⟨.type "tuple_iterator", dc, .fields #[.ref t, .int i 0], sl⟩ ∧ s.heap.IsTuple t items ∧
      ∀ h' e, Heap.ExtBut it s.heap h' → (∃ o, h'.get? e = some o ∧ o.cls = .type "StopIteration") → R (.error (.ref e)) { s with heap := h' }) :=
  .of_wp fun prog w A R s h => by
    obtain ⟨hp, g, d, tk, os⟩ := s
    obtain ⟨hh, h1, ⟨⟨c, dc2, dt, sl2⟩, h2, hc, n, hd⟩, h⟩ := h
    simp only at hc hd
    subst hc hd
    simp only at h1 h2
    wp_walk
    rw [Int.toNat_natCast, hx]
    wp_walk
    exact wpAny_raiseNew_none hh (h _ _ (fun b o n e => by repeat (first | exact Heap.get?_update_of_ne _ (Ne.symm n) e | refine Heap.get?_push_of_some _ ?_)) ⟨_, Heap.get?_push_size _ rfl, rfl⟩)
theorem nx_tup {P : Program} {w : World} {i l : Addr} (vs : Array Value) (hne : l ≠ i) : Nx P w i l (fun k h => h.IsTupleIter i l k ∧ h.IsTuple l vs) vs where
  ne := hne
  there := fun k h ⟨⟨o, e, c, d⟩, ⟨o', e', c', _⟩⟩ => ⟨⟨o, e, ⟨_, c, .inr rfl⟩, _, d⟩, o', e', .inr c'⟩
  keep := fun k h h' ⟨a, b⟩ e1 e2 => ⟨a.at e1, b.at e2⟩
  item := fun A k s Q E x ⟨a, b⟩ hx q => by
    obtain ⟨⟨c, dc, dt, sl⟩, e, hc, hd⟩ := a
    simp only at hc hd
    subst hc hd
    have hT : s.TypeIs (.ref i) "tuple_iterator" := ⟨_, e, rfl⟩
    exact wpAny_bind (wpAny_callSpecial?_slot (name := Str.ofString "__next__") hT F.slot_tuple_iterator_next (call_meets F.slot_tuple_iterator_next hT F.entry_tuple_iterator_next (F.args_tuple_iterator_next_1 _)
      (tn_item i l k dc sl vs x hx) ⟨e, b, fun h' a' sb => wpAny_pure (q h' ⟨a', b.extBut sb.extBut hne⟩ sb)⟩))
  done := fun A k s Q E hh ⟨a, b⟩ hx q => by
    obtain ⟨⟨c, dc, dt, sl⟩, e, hc, hd⟩ := a
    simp only at hc hd
    subst hc hd
    have hT : s.TypeIs (.ref i) "tuple_iterator" := ⟨_, e, rfl⟩
    exact wpAny_bind (wpAny_callSpecial?_slot (name := Str.ofString "__next__") hT F.slot_tuple_iterator_next (call_meets F.slot_tuple_iterator_next hT F.entry_tuple_iterator_next (F.args_tuple_iterator_next_1 _)
      (tn_end i l k dc sl vs hx) ⟨hh, e, b, q⟩))

/-! ### a turn of zip -/
section
variable {P : Program} {w : World} {A : Around} {E : Value → Shared → Prop} {s : Shared} {z TI TO i j l m : Addr} {p1 p2 : Nat → Heap → Prop} {xs ys : Array Value} {k : Nat}
theorem zip_item {x y a b : Value} {Q : Option Value → Shared → Prop} (nd : [z, TI, TO, i, j].Nodup) (c1 : l ∉ [z, TI, TO, i, j]) (c2 : m ∉ [z, TI, TO, i, j]) (N1 : Nx P w i l p1 xs) (N2 : Nx P w j m p2 ys)
    (hz : IsZip s.heap z TI TO .none) (hTI : IsPair s.heap TI (.ref i) (.ref j)) (hTO : IsPair s.heap TO a b) (q1 : p1 k s.heap) (q2 : p2 k s.heap) (hx : xs[k]? = some x) (hy : ys[k]? = some y)
    (hQ : ∀ h', IsZip h' z TI TO (rawInt s.heap.objs.size) → IsPair h' TO x y → p1 (k + 1) h' → p2 (k + 1) h' → IsPair h' s.heap.objs.size x y → h'.objs.size = s.heap.objs.size + 1 →
      (∀ c o, c ≠ z → c ≠ TO → c ≠ i → c ≠ j → s.heap.get? c = some o → h'.get? c = some o) → Q (some (.ref s.heap.objs.size)) { s with heap := h' }) :
    wpAny (model P w) A (pyNext (.ref z)) Q E s := by
  simp only [List.nodup_cons, List.mem_cons, List.not_mem_nil, or_false, not_or, not_false_eq_true, and_true, List.nodup_nil] at nd c1 c2
  have hT : s.TypeIs (.ref z) "zip" := ⟨_, hz, rfl⟩
  unfold pyNext
  refine wpAny_bind (wpAny_attempt (wpAny_callSpecial?_slot (name := Str.ofString "__next__") hT F.slot_zip_next (wpAny_call_entry F.slot_zip_next hT F.entry_zip_next ?_ (F.args_zip_next_1 _))))
  obtain ⟨hp, g, d, tk, os⟩ := s
  wp_walk using wpAny_onRaise, N1.item _ k _ _ _ x
  · exact N1.keep _ _ _ q1 (fun o e => Heap.get?_update_of_ne _ nd.1.2.2.1 e) fun o e => Heap.get?_update_of_ne _ (Ne.symm c1.1) e
  · exact hx
  intro g2 r2 s2
  have t2 : IsPair g2 TO a b := s2.extBut _ _ nd.2.2.1.1 (Heap.get?_update_of_ne _ nd.1.2.1 hTO)
  wp_walk using wpAny_onRaise, N2.item _ k _ _ _ y
  · exact N2.keep _ _ _ q2 (fun o e => Heap.get?_update_of_ne _ nd.2.2.1.2 (s2.extBut _ _ (Ne.symm nd.2.2.2) (Heap.get?_update_of_ne _ nd.1.2.2.2 e)))
      fun o e => Heap.get?_update_of_ne _ (Ne.symm c2.2.2.1) (s2.extBut _ _ c2.2.2.2.1 (Heap.get?_update_of_ne _ (Ne.symm c2.1) e))
  · exact hy
  intro g4 r4 s4
  have t4 := s4.extBut _ _ nd.2.2.1.2 (Heap.get?_update_self (Obj.mapSeq fun q => q.setIfInBounds 0 x) t2 rfl)
  have nz : TO ≠ z := Ne.symm nd.1.2.1
  have z4 := s4.extBut _ _ nd.1.2.2.2 (Heap.get?_update_of_ne (Obj.mapSeq fun q => q.setIfInBounds 0 x) nz (s2.extBut _ _ nd.1.2.2.1 (Heap.get?_update_self (Obj.mapFields fun q => q.setIfInBounds 0 Value.ellipsis) hz rfl)))
  wp_walk
  refine ⟨_, rfl, wpAny_pure ?_⟩
  have sz : (g4.update TO (Obj.mapSeq fun q => q.setIfInBounds (0 + 1) y)).objs.size = hp.objs.size := by
    rw [Heap.size_after_update, s4.1]
    show (g2.update TO _).objs.size = _
    rw [Heap.size_after_update, s2.1]
    exact Heap.size_after_update ..
  rw [sz]
  have zl : z < hp.objs.size := Heap.lt_size hz
  have last : ∀ {G : Heap} {c : Addr} {o : Obj} {f1 f2 : Obj → Obj}, c ≠ z → G.get? c = some o → ((G.update z f1).update z f2).get? c = some o := fun n e => Heap.get?_update_of_ne _ (Ne.symm n) (Heap.get?_update_of_ne _ (Ne.symm n) e)
  have mid : ∀ {c : Addr} {o : Obj} {T : Obj}, c ≠ TO → g4.get? c = some o → ((g4.update TO (Obj.mapSeq fun q => q.setIfInBounds (0 + 1) y)).push T).get? c = some o := fun n e => Heap.get?_push_of_some _ (Heap.get?_update_of_ne _ (Ne.symm n) e)
  refine hQ _ (Heap.get?_update_self _ (Heap.get?_update_self _ (mid (Ne.symm nz) z4) rfl) rfl) (last nz (Heap.get?_push_of_some _ (Heap.get?_update_self _ t4 rfl)))
    (N1.keep _ _ _ r2 (fun o e => last (Ne.symm nd.1.2.2.1) (mid (Ne.symm nd.2.2.1.1) (s4.extBut _ _ nd.2.2.2 (Heap.get?_update_of_ne _ nd.2.2.1.1 e))))
      fun o e => last c1.1 (mid c1.2.2.1 (s4.extBut _ _ c1.2.2.2.2 (Heap.get?_update_of_ne _ (Ne.symm c1.2.2.1) e))))
    (N2.keep _ _ _ r4 (fun o e => last (Ne.symm nd.1.2.2.2) (mid (Ne.symm nd.2.2.1.2) e)) fun o e => last c2.1 (mid c2.2.2.1 e))
    (last (Nat.ne_of_gt zl) (Heap.get?_push_at sz.symm rfl)) ?_ fun c o n1 n2 n3 n4 e => last n1 (mid n2 (s4.extBut _ _ n4 (Heap.get?_update_of_ne _ (Ne.symm n2) (s2.extBut _ _ n3 (Heap.get?_update_of_ne _ (Ne.symm n1) e)))))
  rw [Heap.size_after_update, Heap.size_after_update, Heap.size_push, sz]
theorem zip_done {a b : Value} {Q : Option Value → Shared → Prop} (hh : A.handled = none) (nd : [z, TI, TO, i, j].Nodup) (c1 : l ∉ [z, TI, TO, i, j]) (c2 : m ∉ [z, TI, TO, i, j]) (N1 : Nx P w i l p1 xs) (N2 : Nx P w j m p2 ys)
    (hz : IsZip s.heap z TI TO .none) (hTI : IsPair s.heap TI (.ref i) (.ref j)) (hTO : IsPair s.heap TO a b) (q1 : p1 k s.heap) (q2 : p2 k s.heap) (hend : xs[k]? = none ∨ ys[k]? = none)
    (hQ : ∀ h', (∀ c o, c ≠ z → c ≠ TO → c ≠ i → c ≠ j → s.heap.get? c = some o → h'.get? c = some o) → Q none { s with heap := h' }) : wpAny (model P w) A (pyNext (.ref z)) Q E s := by
  simp only [List.nodup_cons, List.mem_cons, List.not_mem_nil, or_false, not_or, not_false_eq_true, and_true, List.nodup_nil] at nd c1 c2
  have hT : s.TypeIs (.ref z) "zip" := ⟨_, hz, rfl⟩
  have stop : ∀ (G : Heap) (e : Addr) (o : Obj), G.get? z = some ⟨.type "zip", none, .fields #[.ellipsis, .bool false, .bool false, .ref TI, .ref TO], #[]⟩ → G.get? e = some o → o.cls = .type "StopIteration" →
      (∀ c o, c ≠ z → c ≠ TO → c ≠ i → c ≠ j → s.heap.get? c = some o → G.get? c = some o) →
      wpAny (model P w) A.in1 (setField (.ref z) 0 .none) (fun _ s'' => wpAny (model P w) A (do if (← isInstance (.ref e) (.type "StopIteration")) = true then pure none else throw (.ref e)) Q E s'') (fun e' s'' => wpAny (model P w) A (do if (← isInstance e' (.type "StopIteration")) = true then pure none else throw e') Q E s'') { s with heap := G } := fun G e o g1 g2 hc kp => by
    have ne : z ≠ e := fun q => by subst q; rw [g1] at g2; cases g2; exact absurd (show Value.type "zip" = Value.type "StopIteration" from hc) (by decide)
    have g3 := Heap.get?_update_of_ne (Obj.mapFields fun q => q.setIfInBounds 0 Value.none) ne g2
    obtain ⟨hp, gs, d, tk, os⟩ := s
    have ht : Shared.TypeIs ⟨G.update z (Obj.mapFields fun q => q.setIfInBounds 0 Value.none), gs, d, tk, os⟩ (.ref e) "StopIteration" := ⟨o, g3, hc⟩
    have sub := isSubtype_stop
    wp_walk
    exact hQ _ fun c o n1 n2 n3 n4 q => Heap.get?_update_of_ne _ (Ne.symm n1) (kp c o n1 n2 n3 n4 q)
  unfold pyNext
  refine wpAny_bind (wpAny_attempt (wpAny_callSpecial?_slot (name := Str.ofString "__next__") hT F.slot_zip_next (wpAny_call_entry F.slot_zip_next hT F.entry_zip_next ?_ (F.args_zip_next_1 _))))
  have z1 := Heap.get?_update_self (Obj.mapFields fun q => q.setIfInBounds 0 Value.ellipsis) hz rfl
  obtain ⟨hp, g, d, tk, os⟩ := s
  have f1 : p1 k (hp.update z (Obj.mapFields fun q => q.setIfInBounds 0 Value.ellipsis)) := N1.keep _ _ _ q1 (fun o e => Heap.get?_update_of_ne _ nd.1.2.2.1 e) fun o e => Heap.get?_update_of_ne _ (Ne.symm c1.1) e
  cases hx : xs[k]? with
  | none =>
    wp_walk using wpAny_onRaise, N1.done _ k
    · exact hh
    · exact f1
    · exact hx
    intro g2 e s2 he
    obtain ⟨o, ho, hc⟩ := he
    exact stop g2 e o (s2 _ _ nd.1.2.2.1 z1) ho hc fun c o n1 n2 n3 n4 q => s2 _ _ n3 (Heap.get?_update_of_ne _ (Ne.symm n1) q)
  | some x =>
    have hy : ys[k]? = none := hend.resolve_left (by rw [hx]; exact nofun)
    wp_walk using wpAny_onRaise, N1.item _ k _ _ _ x
    · exact f1
    · exact hx
    intro g2 r2 s2
    have t2 : IsPair g2 TO a b := s2.extBut _ _ nd.2.2.1.1 (Heap.get?_update_of_ne _ nd.1.2.1 hTO)
    wp_walk using wpAny_onRaise, N2.done _ k
    · exact hh
    · exact N2.keep _ _ _ q2 (fun o e => Heap.get?_update_of_ne _ nd.2.2.1.2 (s2.extBut _ _ (Ne.symm nd.2.2.2) (Heap.get?_update_of_ne _ nd.1.2.2.2 e)))
        fun o e => Heap.get?_update_of_ne _ (Ne.symm c2.2.2.1) (s2.extBut _ _ c2.2.2.2.1 (Heap.get?_update_of_ne _ (Ne.symm c2.1) e))
    · exact hy
    intro g4 e s4 he
    obtain ⟨o, ho, hc⟩ := he
    exact stop g4 e o (s4 _ _ nd.1.2.2.2 (Heap.get?_update_of_ne _ (Ne.symm nd.1.2.1) (s2.extBut _ _ nd.1.2.2.1 z1))) ho hc
      fun c o n1 n2 n3 n4 q => s4 _ _ n4 (Heap.get?_update_of_ne _ (Ne.symm n2) (s2.extBut _ _ n3 (Heap.get?_update_of_ne _ (Ne.symm n1) q)))
end
end L2
end
section
/-! zip walked; ranges as lists and tuples; the empty dict. -/
namespace L2
open PySem PySem.Spec PyProof.Rows
set_option maxHeartbeats 4000000
set_option maxRecDepth 100000
set_option Elab.async false
set_option linter.unusedVariables false

/-! ### ranges -/
section
variable {prog : Program} {w : World} {A : Around} {E : Value → Shared → Prop} {s : Shared} {r : Addr} {a b c : Int} {t u v : Tok} {n : Nat}
end
section
variable {X : Cx}
/-! ### {} -/
end
end L2
end
section
/-! zip(a, b) of two tuples or two lists, walked with a pair as target. -/
namespace L2
open PySem PySem.Spec PyProof.Rows
set_option maxHeartbeats 4000000
set_option maxRecDepth 100000
set_option Elab.async false
set_option linter.unusedVariables false

/-- kinds: true a tuple, false a list -/
def ItAt (t : Bool) (i l : Addr) (k : Nat) (h : Heap) : Prop := match t with
  | true => h.IsTupleIter i l k
  | false => h.IsListIter i l k
def SqK (t : Bool) (K : PySem.W.Frag) (H : Hp) (l : Addr) (xs : List V) : Prop := match t with
  | true => SqT K H l xs
  | false => SqL K H l xs
theorem ItAt.at {t : Bool} {i l : Addr} {k : Nat} {h h' : Heap} (x : ItAt t i l k h) (e : ∀ o, h.get? i = some o → h'.get? i = some o) : ItAt t i l k h' := by
  cases t
  · exact Heap.IsListIter.at x e
  · exact Heap.IsTupleIter.at x e
theorem ItAt.obj {t : Bool} {i l : Addr} {k : Nat} {h : Heap} (x : ItAt t i l k h) : ∃ o f c, h.get? i = some o ∧ o.data = .fields f ∧ o.cls = .type c ∧ (c = "list_iterator" ∨ c = "tuple_iterator") := by
  cases t
  · obtain ⟨o, e, c, d⟩ := (show h.IsListIter i l k from x)
    exact ⟨o, _, _, e, d, c, .inl rfl⟩
  · obtain ⟨o, e, c, d⟩ := (show h.IsTupleIter i l k from x)
    exact ⟨o, _, _, e, d, c, .inr rfl⟩
section
variable {X : Cx} {pins : List (Addr × Obj)} {σ : St} {H : Hp} {s : Shared}
theorem Inv.sqk {t : Bool} {l : Addr} {xs : List V} (I : Inv X pins σ H s) (h : SqK t X.K H l xs) : ∃ its : List Value, Vals xs its ∧ (∃ o, s.heap.get? l = some o ∧ (o.cls = .type "list" ∨ o.cls = .type "tuple")) ∧
    ∀ (i : Addr), l ≠ i → ∃ pl : Nat → Heap → Prop, Nx X.prog X.w i l pl its.toArray ∧ (∀ k, ItAt t i l k s.heap → pl k s.heap) ∧ (∀ k h', pl k h' → ItAt t i l k h') := by
  cases t
  · obtain ⟨its, r, p, hz⟩ := I.list (show SqL X.K H l xs from h)
    obtain ⟨o, ho, hc, n, hd⟩ := id p.isList
    exact ⟨its, r, ⟨o, ho, .inl hc⟩, fun i ne => ⟨_, nx_list its.toArray ne, fun k z => ⟨z, p.isList⟩, fun k h' z => z.1⟩⟩
  · obtain ⟨its, r, p, hz⟩ := I.tuple (show SqT X.K H l xs from h)
    obtain ⟨o, ho, hc, n, hd⟩ := id p
    exact ⟨its, r, ⟨o, ho, .inr hc⟩, fun i ne => ⟨_, nx_tup its.toArray ne, fun k z => ⟨z, p⟩, fun k h' z => z.1⟩⟩
theorem Inv.sqk_inj {t : Bool} {l : Addr} {xs ys : List V} (I : Inv X pins σ H s) (h : SqK t X.K H l xs) (h' : SqK t X.K H l ys) : xs = ys := by
  cases t
  · exact I.list_inj h h'
  · exact I.tuple_inj h h'
end

/-- the pairs of two sequences -/
def Itz (t : Bool) (K : PySem.W.Frag) (l m : Addr) : It where
  go := fun i H => ∃ xs ys x y, SqK t K H l xs ∧ SqK t K H m ys ∧ xs[i]? = some x ∧ ys[i]? = some y
  yld := fun i H v H' => ∃ p x y, v = .ref p ∧ H p = none ∧ H' = upd H p (.tup [x, y]) ∧ (∀ xs, SqK t K H l xs → xs[i]? = some x) ∧ ∀ ys, SqK t K H m ys → ys[i]? = some y
  stop := fun i H => ∃ xs ys, SqK t K H l xs ∧ SqK t K H m ys ∧ (xs[i]? = none ∨ ys[i]? = none)

theorem turn_zip {P : Program} {w : World} {K : PySem.W.Frag} {es : List Expr} {k0 : Nat} {pos : Pos} {t : Bool} {z TI TO i j l m : Addr} (a1 : TI ≠ z) (a2 : TO ≠ z) (a3 : i ≠ z) (a4 : j ≠ z) (a5 : TI ≠ TO) (a6 : TI ≠ i) (a7 : TI ≠ j) (a8 : TO ≠ i) (a9 : TO ≠ j) (b1 : i ≠ j)
    (c1 : l ∉ [z, TI, TO, i, j]) (c2 : m ∉ [z, TI, TO, i, j]) :
    Turn P w K (.Tuple es k0 pos) (Itz t K l m) [z, TI, TO, i, j] z (fun k h => IsZip h z TI TO .none ∧ IsPair h TI (.ref i) (.ref j) ∧ (∃ a b, IsPair h TO a b) ∧ ItAt t i l k h ∧ ItAt t j m k h) where
  mem := by simp
  obj := fun k h ⟨hz, h1, ⟨a, b, h2⟩, h3, h4⟩ c hc => by
    obtain ⟨o1, f1, _, e1, d1, _⟩ := h3.obj
    obtain ⟨o2, f2, _, e2, d2, _⟩ := h4.obj
    simp only [List.mem_cons, List.not_mem_nil, or_false] at hc
    rcases hc with rfl | rfl | rfl | rfl | rfl
    · exact ⟨_, hz, fun v q => by cases q⟩
    · exact ⟨_, h1, fun v q => by cases q⟩
    · exact ⟨_, h2, fun v q => by cases q⟩
    · exact ⟨_, e1, fun v q => by rw [d1] at q; cases q⟩
    · exact ⟨_, e2, fun v q => by rw [d2] at q; cases q⟩
  keep := fun k h h' ⟨hz, h1, ⟨a, b, h2⟩, h3, h4⟩ kp => ⟨kp z (by simp) _ hz, kp TI (by simp) _ h1, ⟨a, b, kp TO (by simp) _ h2⟩, h3.at fun o e => kp i (by simp) o e, h4.at fun o e => kp j (by simp) o e⟩
  item := by
    intro X hP hw hK hc k pins s σ H E I hf st hg
    subst hP hw hK
    obtain ⟨xs, ys, x, y, hl, hm, hx, hy⟩ := hg
    obtain ⟨hz, h1, ⟨a, b, h2⟩, h3, h4⟩ := st
    have cl := c1
    have cm := c2
    simp only [List.mem_cons, List.not_mem_nil, or_false, not_or] at c1 c2
    obtain ⟨its, r1, _, n1⟩ := I.sqk hl
    obtain ⟨jts, r2, _, n2⟩ := I.sqk hm
    obtain ⟨p1, N1, u1, v1⟩ := n1 i c1.2.2.2.1
    obtain ⟨p2, N2, u2, v2⟩ := n2 j c2.2.2.2.2
    obtain ⟨u, hu, ru⟩ := r1.get hx
    obtain ⟨u', hu', ru'⟩ := r2.get hy
    have D : [z, TI, TO, i, j].Nodup := by simp [a1, a2, a3, a4, a5, a6, a7, a8, a9, b1, Ne.symm a1, Ne.symm a2, Ne.symm a3, Ne.symm a4]
    refine zip_item D cl cm N1 N2 hz h1 h2 (u1 k h3) (u2 k h4) (x := u) (y := u') (by simpa using hu) (by simpa using hu') fun h' z1 z2 z3 z4 z5 z6 kp => ?_
    refine ⟨_, rfl, wpAny_letOwnedTupleGo_zip z1 fun h'' y1 sb => ?_⟩
    have fz : H s.heap.objs.size = none := I.hok.fresh (Nat.le_refl _)
    have zlt : z < s.heap.objs.size := Heap.lt_size hz
    have mine : ∀ c ∈ [z, TI, TO, i, j], c ≠ s.heap.objs.size := fun c hc' => by
      obtain ⟨o1, f1, _, e1, d1, _⟩ := h3.obj
      obtain ⟨o2, f2, _, e2, d2, _⟩ := h4.obj
      simp only [List.mem_cons, List.not_mem_nil, or_false] at hc'
      rcases hc' with rfl | rfl | rfl | rfl | rfl
      · exact Nat.ne_of_lt (Heap.lt_size hz)
      · exact Nat.ne_of_lt (Heap.lt_size h1)
      · exact Nat.ne_of_lt (Heap.lt_size h2)
      · exact Nat.ne_of_lt (Heap.lt_size e1)
      · exact Nat.ne_of_lt (Heap.lt_size e2)
    have kp2 : ∀ c o, c ∉ [z, TI, TO, i, j] → s.heap.get? c = some o → h''.get? c = some o := fun c o hc' e => by
      simp only [List.mem_cons, List.not_mem_nil, or_false, not_or] at hc'
      exact sb.extBut _ _ hc'.1 (kp c o hc'.1 hc'.2.2.1 hc'.2.2.2.1 hc'.2.2.2.2 e)
    have tp : h''.get? s.heap.objs.size = some { cls := .type "tuple", data := .seq #[u, u'] } := sb.extBut _ _ (mine z (by simp)).symm z5
    have notH : ∀ c ∈ [z, TI, TO, i, j], H c = none := fun c hc' => (hf c hc').1
    have I1 : Inv X pins σ (upd H s.heap.objs.size (.tup [x, y])) { s with heap := h'' } := by
      have un : Un X.fs [z, TI, TO, i, j] H (upd H s.heap.objs.size (.tup [x, y])) s.heap h'' :=
        ⟨fun c o e n nf hx => kp2 c o hx e, fun c o e n nf hx => ⟨o.slots, kp2 c o hx e⟩, fun c o e n hx => by rw [upd_ne (Nat.ne_of_lt (Heap.lt_size e))]; exact n,
          fun c o e hx => ⟨o, kp2 c o hx e⟩, fun c xs e => by rw [upd_ne (ne_of_none e fz)]; exact e, fun c o xs e => by rw [upd_ne (ne_of_none e fz)]; exact e, fun c ps e => ⟨#[], by rw [upd_ne (ne_of_none e fz), e]; simp⟩⟩
      have hok : HOk X.prog X.w (upd H s.heap.objs.size (.tup [x, y])) h'' := fun c o e => by
        by_cases hcs : c = s.heap.objs.size
        · subst hcs
          rw [upd_same] at e
          cases e
          exact ⟨by show 2 ≤ sizeLine; decide, [u, u'], .cons ru (.cons ru' .nil), ⟨_, tp, rfl, _, rfl⟩⟩
        · rw [upd_ne hcs] at e
          refine (I.hok c o e).stay (fun d w' hd q => kp2 d w' (fun zz => ?_) q) (fun d q => ?_) fun d w' q => ?_
          · have hn := notH d zz
            rcases hd with rfl | hd
            · rw [hn] at e; cases e
            · rw [hn] at hd; cases hd
          · rw [upd_ne (ne_of_none q fz)]; exact q
          · rw [upd_ne (ne_of_none q fz)]; exact q
      have hch : ∀ b ∈ [z, TI, TO, i, j], (b ∈ X.ex ∨ X.s₀.heap.objs.size ≤ b) ∧ b ≠ X.env.locals ∧ (∀ x c, X.env.cells.lookup x = some c → c ≠ b) ∧ ∀ p ∈ X.pn ++ pins, p.1 ≠ b := fun b hb => ⟨(hf b hb).2.2.2.1, (hf b hb).2.1, (hf b hb).2.2.2.2.1, (hf b hb).2.2.2.2.2⟩
      refine I.step (g' := s.gens) (d' := s.drawn) (t' := s.toks) (ch := [z, TI, TO, i, j]) hch (fun c o _ _ hc' e _ => kp2 c o hc' e) (fun c o _ _ hc' e _ => ⟨o.slots, kp2 c o hc' e⟩) (fun c o hc' e n => un.free c o e n hc') (fun c o hc' e => un.there c o e hc') un.tups un.frzs un.tbls (fun m' hm' => ?_) hok I.bare
      obtain ⟨o, es', ep, ho, r⟩ := hm'
      exact ⟨o, es', ep, kp2 _ o (fun zz => (hf _ zz).2.1 rfl) ho, r⟩
    refine ⟨.ref s.heap.objs.size, _, I1, rfl, ⟨s.heap.objs.size, x, y, rfl, fz, rfl, fun xs' q => by rw [I.sqk_inj q hl]; exact hx, fun ys' q => by rw [I.sqk_inj q hm]; exact hy⟩, ?_, fun c hc' => ?_⟩
    · have up : ∀ c o, c ≠ z → h'.get? c = some o → h''.get? c = some o := fun c o hc' e => sb.extBut _ _ hc' e
      exact ⟨y1, up _ _ a1 (kp _ _ a1 a5 a6 a7 h1), ⟨_, _, up _ _ a2 z2⟩, (v1 _ _ z3).at fun o e => up _ o a3 e, (v2 _ _ z4).at fun o e => up _ o a4 e⟩
    · rw [upd_ne (mine c hc')]
      exact notH c hc'
  done := by
    intro X hP hw hK hc k pins s σ H E I hf st hg
    subst hP hw hK
    obtain ⟨xs, ys, hl, hm, hend⟩ := hg
    obtain ⟨hz, h1, ⟨a, b, h2⟩, h3, h4⟩ := st
    have cl := c1
    have cm := c2
    simp only [List.mem_cons, List.not_mem_nil, or_false, not_or] at c1 c2
    obtain ⟨its, r1, _, n1⟩ := I.sqk hl
    obtain ⟨jts, r2, _, n2⟩ := I.sqk hm
    obtain ⟨p1, N1, u1, v1⟩ := n1 i c1.2.2.2.1
    obtain ⟨p2, N2, u2, v2⟩ := n2 j c2.2.2.2.2
    have D : [z, TI, TO, i, j].Nodup := by simp [a1, a2, a3, a4, a5, a6, a7, a8, a9, b1, Ne.symm a1, Ne.symm a2, Ne.symm a3, Ne.symm a4]
    refine zip_done (I.ok.hd hc) D cl cm N1 N2 hz h1 h2 (u1 k h3) (u2 k h4) (hend.elim (fun q => .inl (by simpa using r1.none_of q)) fun q => .inr (by simpa using r2.none_of q)) fun h' kp => ⟨rfl, ?_⟩
    have kp2 : ∀ c o, c ∉ [z, TI, TO, i, j] → s.heap.get? c = some o → h'.get? c = some o := fun c o hc' e => by
      simp only [List.mem_cons, List.not_mem_nil, or_false, not_or] at hc'
      exact kp c o hc'.1 hc'.2.2.1 hc'.2.2.2.1 hc'.2.2.2.2 e
    have hch : ∀ b ∈ [z, TI, TO, i, j], (b ∈ X.ex ∨ X.s₀.heap.objs.size ≤ b) ∧ b ≠ X.env.locals ∧ (∀ x c, X.env.cells.lookup x = some c → c ≠ b) ∧ ∀ p ∈ X.pn ++ pins, p.1 ≠ b := fun b hb => ⟨(hf b hb).2.2.2.1, (hf b hb).2.1, (hf b hb).2.2.2.2.1, (hf b hb).2.2.2.2.2⟩
    refine I.step (g' := s.gens) (d' := s.drawn) (t' := s.toks) (ch := [z, TI, TO, i, j]) hch (fun c o _ _ hc' e _ => kp2 c o hc' e) (fun c o _ _ hc' e _ => ⟨o.slots, kp2 c o hc' e⟩) (fun _ _ _ _ n => n) (fun c o hc' e => ⟨o, kp2 c o hc' e⟩) (fun _ _ e => e) (fun _ _ _ e => e) (fun b ps e => ⟨#[], by rw [e]; simp⟩) (fun m' hm' => ?_) (fun c o e => ?_) I.bare
    · obtain ⟨o, es', ep, ho, r⟩ := hm'
      exact ⟨o, es', ep, kp2 _ o (fun zz => (hf _ zz).2.1 rfl) ho, r⟩
    · refine (I.hok c o e).stay (fun d w' hd q => kp2 d w' (fun zz => ?_) q) (fun _ q => q) fun _ _ q => q
      have hn := (hf d zz).1
      rcases hd with rfl | hd
      · rw [hn] at e; cases e
      · rw [hn] at hd; cases hd
  self := fun A k s Q E st h => wpAny_pyIter_zip st.1 h
end L2
end
section
/-! zip(a, b) made. -/
namespace L2
open PySem PySem.Spec PyProof.Rows
set_option maxHeartbeats 4000000
set_option maxRecDepth 100000
set_option Elab.async false
set_option linter.unusedVariables false
/-- zip.__new__ of two tuples, walked: two iterators, two pairs, the zip -/
theorem tz_new (l m : Addr) (xs ys : Array Value) : Meets (Builtin.«zip.__new__» ⟨[.type "zip", .ref l, .ref m], []⟩) (fun _ R s => s.heap.IsTuple l xs ∧ s.heap.IsTuple m ys ∧
      ∀ h' : Heap, IsZip h' (s.heap.objs.size + 4) (s.heap.objs.size + 2) (s.heap.objs.size + 3) .none → IsPair h' (s.heap.objs.size + 2) (.ref s.heap.objs.size) (.ref (s.heap.objs.size + 1)) →
        IsPair h' (s.heap.objs.size + 3) .none .none → h'.IsTupleIter s.heap.objs.size l 0 → h'.IsTupleIter (s.heap.objs.size + 1) m 0 → (∀ c o, s.heap.get? c = some o → h'.get? c = some o) →
        R (.ok (.ret (.ref (s.heap.objs.size + 4)))) { s with heap := h' }) :=
  .of_wp fun prog w A R s h => by
    obtain ⟨hp, g, d, tk, os⟩ := s
    obtain ⟨h1, h2, h⟩ := h
    have hsub := sub_zip
    wp_walk using wpAny_pyIter_tuple h1, wpAny_pyIter_tuple (Heap.IsTuple.push h2 _)
    simp only [Heap.size_push]
    refine ⟨_, rfl, h _ (Heap.get?_push_at (by simp only [Heap.size_push]) rfl) ?_ ?_ ?_ ?_ fun c o x => ?_⟩
    · exact Heap.get?_push_of_some _ (Heap.get?_push_of_some _ (Heap.get?_push_at (by simp only [Heap.size_push]) rfl))
    · exact Heap.get?_push_of_some _ (Heap.get?_push_at (by simp only [Heap.size_push]) rfl)
    · exact ⟨_, Heap.get?_push_of_some _ (Heap.get?_push_of_some _ (Heap.get?_push_of_some _ (Heap.get?_push_of_some _ (Heap.get?_push_size _ rfl)))), rfl, rfl⟩
    · exact ⟨_, Heap.get?_push_of_some _ (Heap.get?_push_of_some _ (Heap.get?_push_of_some _ (Heap.get?_push_at (by simp only [Heap.size_push]) rfl))), rfl, rfl⟩
    repeat (first | exact x | refine Heap.get?_push_of_some _ ?_)
section
variable {prog : Program} {w : World} {A : Around} {E : Value → Shared → Prop} {s : Shared}
theorem zip_tups {l m : Addr} {xs ys : Array Value} {Q : Value → Shared → Prop} (h1 : s.heap.IsTuple l xs) (h2 : s.heap.IsTuple m ys)
    (h : ∀ h', IsZip h' (s.heap.objs.size + 4) (s.heap.objs.size + 2) (s.heap.objs.size + 3) .none → IsPair h' (s.heap.objs.size + 2) (.ref s.heap.objs.size) (.ref (s.heap.objs.size + 1)) →
      IsPair h' (s.heap.objs.size + 3) .none .none → h'.IsTupleIter s.heap.objs.size l 0 → h'.IsTupleIter (s.heap.objs.size + 1) m 0 →
      (∀ c o, s.heap.get? c = some o → h'.get? c = some o) → Q (.ref (s.heap.objs.size + 4)) { s with heap := h' }) :
    wpAny (model prog w) A (call (.type "zip") [.ref l, .ref m]) Q E s :=
  callType_new F.called_zip (by decide) (F.typeCall_zip_2 _ _) (F.newCall_zip_2 _ _) (fun obj => F.args_object_init_3 obj _ _) F.entry_zip_new (tz_new l m xs ys)
    ⟨h1, h2, fun h' z p1 p2 i1 i2 kp => ⟨⟨_, z, rfl⟩, h h' z p1 p2 i1 i2 kp⟩⟩
end
theorem apart_nat (n : Nat) {a b : Nat} (h : a ≠ b) : n + a ≠ n + b := fun z => h (Nat.add_left_cancel z)
theorem not_fresh5 {n c : Nat} (h : c < n) (z : c = n + 4 ∨ c = n + 2 ∨ c = n + 3 ∨ c = n ∨ c = n + 1) : False := by omega
theorem fresh5 {n c : Nat} (z : c = n + 4 ∨ c = n + 2 ∨ c = n + 3 ∨ c = n ∨ c = n + 1) : n ≤ c := by omega
section
variable {X : Cx}
end
end L2
end
section
/-! SHORT WORDS for a whole text: own defs by name, built-ins by name. -/
namespace L2
open PySem PySem.Spec PyProof.Rows
set_option maxHeartbeats 4000000
set_option Elab.async false
set_option linter.unusedVariables false
/-- the def x keeps sp with k calls left -/
def Has (P : Program) (w : World) (K : PySem.W.Frag) (mg : Str → Option Value) (base : Heap) (k : Nat) (x : Str) (ps : List Str) (sp : Sp) : Prop :=
  ∃ (f : Addr) (fd : FuncData), FnOk P w K mg base CX0 k f fd ps sp ∧ mg x = some (.ref f) ∧ PySem.W.keepIn K (.ref f) = true ∧ Binds K fd ps []
section
variable {X : Cx} {k k' : Nat} {x : Str} {ps : List Str} {sp : Sp} {e : Expr} {es : List Expr} {t : TA} {p pos : Pos}
theorem pe_def (h : Has X.prog X.w X.K X.mg X.base k x ps sp) (hr : Room k' X.A) (ha : PA X (e :: es) t) (hg : Gl X x := by rfl) (hk : k ≤ k' := by decide) (hdb : (x == ("__debug__" : Str)) = false := by decide)
    (he : starEach (e :: es) X.env = (false, eval e X.env) :: starEach es X.env := by rfl) (hpl : (backTo pos (starEach es X.env)).any (·.1) = false := by rfl) : PE X (.Call (.Name x p) (e :: es) [] pos) (tCall sp [] E0 t) := by
  obtain ⟨f, fd, F, m, kp, b⟩ := h
  exact pe_call F (hr.mono hk) hg m kp b .nil pass0 ha hdb he hpl
/-- a constant of the module -/
theorem pe_const {v : V} (h : ∃ u, X.mg x = some u ∧ RelV v u) (hg : Gl X x := by rfl) (hd : (x == ("__debug__" : Str)) = false := by decide) : PE X (.Name x pos) (tC v) := by
  obtain ⟨u, m, r⟩ := h
  exact pe_glob hg m r hd
/-- a built-in type as a value -/
theorem pe_ty {T : String} (hm : X.mg x = none) (hv : bootBuiltins x = some (.type T)) (hg : Gl X x := by rfl) (hn : x ≠ "__name__" := by decide) (hd : (x == ("__debug__" : Str)) = false := by decide) : PE X (.Name x pos) (tC (.ty T)) := pe_bltn hg hm hv rfl hn hd
end
/-- the built-ins that a text uses are no names of its own -/
structure Nb (mg : Str → Option Value) : Prop where
  len : mg "len" = none
  isi : mg "isinstance" = none
  bool : mg "bool" = none
  int : mg "int" = none
  tuple : mg "tuple" = none
  list : mg "list" = none
  range : mg "range" = none
  zip : mg "zip" = none
  all : mg "all" = none
  max : mg "max" = none
  min : mg "min" = none
end L2
end
section
/-! A comprehension without tests whose elements only add to the heap. -/
namespace L2
open PySem PySem.Spec PyProof.Rows
set_option maxHeartbeats 4000000
set_option Elab.async false
set_option linter.unusedVariables false
theorem Same.upd_free {H1 H5 : Hp} {D : Addr} (s : Same H1 H5) (hD : H1 D = none) (o : HO) : Same H1 (upd H5 D o) := fun b u q => by rw [upd_ne (ne_of_none q hD)]; exact s b u q
theorem comp_go {J : It} {g : TG} {te : TE} {Q : VK} {D : Addr} {H1 : Hp} {σ0 : St} (n : Nat) (hn : n ≤ sizeLine) (f : Nat → V) (Sg : St → Prop) (itm : Nat → Hp → V → Prop) (hD : H1 D = none) (s0 : Sg σ0)
    (items : ∀ i H, Same H1 H → (i < n → J.go i H ∧ ∀ x H2, J.yld i H x H2 → Same H H2 ∧ itm i H2 x) ∧ (n ≤ i → J.stop i H))
    (step : ∀ i x σ' H, i < n → Same H1 H → itm i H x → Sg σ' → ∀ R : St → V → Hp → Prop, (∀ σ3 y H5, Sg σ3 → Same H H5 → y = f i → R σ3 y H5) → g x σ' H fun σ3 H3 => te σ3 H3 (R σ3))
    (fin : ∀ H', Same H1 H' → H' D = some (.lst ((List.range n).map f)) → Q (.ref D) H') :
    cmpW J g tYes te Q D σ0 H1 := by
  refine ⟨fun i m σ H => m = n - i ∧ i ≤ n ∧ Sg σ ∧ Same H1 H ∧ H D = some (.lst ((List.range i).map f)), ⟨n, by omega, Nat.zero_le _, s0, (Same.refl H1).upd_free hD _, upd_same⟩, ?_⟩
  rintro i m σ H ⟨rfl, hi, hs, sm, hd⟩
  by_cases hlt : i < n
  · obtain ⟨go, yl⟩ := (items i H sm).1 hlt
    refine .inr ⟨go, fun x H2 y => ?_⟩
    obtain ⟨s2, im⟩ := yl x H2 y
    have e : (fun (σ3 : St) (H3 : Hp) => tYes σ3 H3 fun ok H4 =>
        if ok = true then te σ3 H4 fun y H5 => ∃ ys, H5 D = some (.lst ys) ∧ ys.length < sizeLine ∧ ∃ m', m' < n - i ∧ (m' = n - (i + 1) ∧ i + 1 ≤ n ∧ Sg σ3 ∧ Same H1 (upd H5 D (.lst (ys ++ [y]))) ∧ upd H5 D (.lst (ys ++ [y])) D = some (.lst ((List.range (i + 1)).map f)))
        else ∃ m', m' < n - i ∧ (m' = n - (i + 1) ∧ i + 1 ≤ n ∧ Sg σ3 ∧ Same H1 H4 ∧ H4 D = some (.lst ((List.range (i + 1)).map f)))) =
        fun σ3 H3 => te σ3 H3 fun y H5 => ∃ ys, H5 D = some (.lst ys) ∧ ys.length < sizeLine ∧ ∃ m', m' < n - i ∧ (m' = n - (i + 1) ∧ i + 1 ≤ n ∧ Sg σ3 ∧ Same H1 (upd H5 D (.lst (ys ++ [y]))) ∧ upd H5 D (.lst (ys ++ [y])) D = some (.lst ((List.range (i + 1)).map f))) := by
      funext σ3 H3
      unfold tYes
      dsimp only
      rw [if_pos rfl]
    rw [e]
    refine step i x σ H2 hlt (sm.trans s2) im hs _ fun σ3 y H5 g3 s5 ey => ?_
    refine ⟨_, s5 _ _ (s2 _ _ hd), by rw [List.length_map, List.length_range]; omega, n - (i + 1), by omega, rfl, by omega, g3, (sm.trans (s2.trans s5)).upd_free hD _, ?_⟩
    rw [upd_same, ey, List.range_succ, List.map_append]
    rfl
  · have e : i = n := by omega
    subst e
    exact .inl ⟨(items i H sm).2 (Nat.le_refl _), fin H sm hd⟩
theorem items_lst {K : PySem.W.Frag} {a : Addr} {xs : List V} {H1 : Hp} (h : H1 a = some (.lst xs)) (i : Nat) (H : Hp) (s : Same H1 H) :
    (i < xs.length → (Itl K a).go i H ∧ ∀ x H2, (Itl K a).yld i H x H2 → Same H H2 ∧ xs[i]? = some x) ∧ (xs.length ≤ i → (Itl K a).stop i H) := by
  have q : SqL K H a xs := SqL.of (s _ _ h)
  refine ⟨fun hi => ⟨⟨xs, xs[i], q, List.getElem?_eq_getElem hi⟩, fun x H2 ⟨e, y⟩ => ?_⟩, fun hi => ⟨xs, q, hi⟩⟩
  subst e
  exact ⟨Same.refl _, y xs q⟩
/-- over two tracked tuples, side by side -/
theorem items_zip {K : PySem.W.Frag} {a b : Addr} {xs ys : List V} {H1 : Hp} (h : H1 a = some (.tup xs)) (h' : H1 b = some (.tup ys)) (i : Nat) (H : Hp) (s : Same H1 H) :
    (i < min xs.length ys.length → (Itz true K a b).go i H ∧ ∀ v H2, (Itz true K a b).yld i H v H2 → Same H H2 ∧ ∃ p x y, v = .ref p ∧ H2 p = some (.tup [x, y]) ∧ xs[i]? = some x ∧ ys[i]? = some y) ∧ (min xs.length ys.length ≤ i → (Itz true K a b).stop i H) := by
  have q : SqK true K H a xs := SqT.of (s _ _ h)
  have q' : SqK true K H b ys := SqT.of (s _ _ h')
  refine ⟨fun hi => ⟨⟨xs, ys, xs[i]'(by omega), ys[i]'(by omega), q, q', List.getElem?_eq_getElem (by omega), List.getElem?_eq_getElem (by omega)⟩, fun v H2 ⟨p, x, y, e1, e2, e3, e4, e5⟩ => ?_⟩, fun hi => ⟨xs, ys, q, q', ?_⟩⟩
  · subst e3
    exact ⟨same_new e2 _, p, x, y, e1, upd_same, e4 xs q, e5 ys q'⟩
  · by_cases hx : xs.length ≤ i
    · exact .inl (List.getElem?_eq_none hx)
    · exact .inr (List.getElem?_eq_none (by omega))
end L2
end
section
/-! Comprehensions with a name, with a pair of names as target. -/
namespace L2
open PySem PySem.Spec PyProof.Rows
set_option maxHeartbeats 4000000
set_option Elab.async false
set_option linter.unusedVariables false
section
variable {X : Cx} {elt iter : Expr} {ifs : List Expr} {scope : Scope} {pos : Pos} {N : List Str} {js : List Nat} {sc : Scope} {N0 : List Str} {wi : TI} {tt : TT} {te : TE} {x y : Str} {px py tp : Pos} {k : Nat}
theorem blk_loc {cl : List (Str × Addr)} {C : Addr} {s : Shared} {H : Hp} {fp : List Addr} (h : scope.names.lookup x = some .local) : (blk X N scope cl C s H fp).env.scope.names.lookup x = some .local := lookup_relabel_local h
theorem pe_comp1 (hc : X.calm = true) (hsc : X.env.scope = sc) (hN : X.N = N0) (B : Blk sc N0 (x :: N) 1 js scope) (hx : scope.names.lookup x = some .local) (hi : PI X (.Name x px) iter wi)
    (ht : ∀ cl C s H fp, PTs (blk X (x :: N) scope cl C s H fp) ifs tt) (he : ∀ cl C s H fp, PE (blk X (x :: N) scope cl C s H fp) elt te)
    (hs : ∀ x, foldedSetIterable iter X.env x = pure x := by intro _; rfl) : PE X (.ListComp elt [⟨.Name x px, iter, ifs, 0⟩] scope pos) (tComp 1 js wi (gName 0) tt te) :=
  pe_comp hc hsc hN B hi (fun cl C s H fp => pg_name (i := 0) B.nd rfl (.inl (blk_loc hx)) (.inr (blk_loc hx))) ht he hs
theorem pe_comp2 (hc : X.calm = true) (hsc : X.env.scope = sc) (hN : X.N = N0) (B : Blk sc N0 (x :: y :: N) 2 js scope) (hx : scope.names.lookup x = some .local) (hy : scope.names.lookup y = some .local) (hi : PI X (.Tuple [.Name x px, .Name y py] k tp) iter wi)
    (ht : ∀ cl C s H fp, PTs (blk X (x :: y :: N) scope cl C s H fp) ifs tt) (he : ∀ cl C s H fp, PE (blk X (x :: y :: N) scope cl C s H fp) elt te)
    (hs : ∀ x, foldedSetIterable iter X.env x = pure x := by intro _; rfl) : PE X (.ListComp elt [⟨.Tuple [.Name x px, .Name y py] k tp, iter, ifs, 0⟩] scope pos) (tComp 2 js wi (gTup X.K 2 (gCons (gName 0) (gCons (gName 1) gNil))) tt te) :=
  pe_comp hc hsc hN B hi (fun cl C s H fp => pg_tup (X := blk X (x :: y :: N) scope cl C s H fp) hc (pgs_cons (pg_name (i := 0) B.nd rfl (.inl (blk_loc hx)) (.inr (blk_loc hx))) (pgs_cons (pg_name (i := 1) B.nd rfl (.inl (blk_loc hy)) (.inr (blk_loc hy))) pgs_nil))) ht he hs
end
end L2
end
section
/-! LONG DISPLAYS: the judgement in a box that is not looked into while it is put together. -/
namespace L2
open PySem PySem.Spec PyProof.Rows
set_option maxHeartbeats 4000000
set_option Elab.async false
set_option linter.unusedVariables false
structure SA (X : Cx) (es : List Expr) (t : TA) : Prop where
  get : PA X es t
structure SE (X : Cx) (e : Expr) (t : TE) : Prop where
  get : PE X e t
section
variable {X : Cx} {e : Expr} {es : List Expr} {te : TE} {t : TA} {pos : Pos}
end
end L2
end
section
/-! reversed(t) of a tuple: what the tables say of the type `reversed`. -/
namespace L2
open PySem PySem.Spec PyProof.Rows
set_option maxHeartbeats 4000000
set_option maxRecDepth 100000
set_option Elab.async false
set_option linter.unusedVariables false
end L2
end
section
namespace L2
open PySem PySem.Spec PyProof.Rows
set_option maxHeartbeats 4000000
set_option maxRecDepth 100000
set_option Elab.async false
set_option linter.unusedVariables false
section
variable {prog : Program} {w : World} {A : Around} {E : Value → Shared → Prop}
end
section
variable {X : Cx} {tg : Expr}
end
end L2
end
section
/-! Tuples of ints held side by side; list(range(a, b, c)); comprehensions with a test. -/
namespace L2
open PySem PySem.Spec PyProof.Rows
set_option maxHeartbeats 4000000
set_option Elab.async false
set_option linter.unusedVariables false
theorem of_rcne' {prog : Program} {w : World} {A : Around} {E : Value → Shared → Prop} {s : Shared} {a b : Value} {k : Bool} {Q : Value → Shared → Prop} (h : SeqAt.RcNeAt A s a b k) (hq : Q (.bool k) s) : wpAny (model prog w) A (compareOp .NotEq a b) Q E s := h prog w E Q hq
section
variable {X : Cx}
theorem int_val {n : Int} {u : Value} (r : RelV (.int n) u) : ∃ t, u = .int n t := r
end
end L2
end
section
/-! name = [comprehension]; comprehensions with a test; ranges walked by a comprehension. -/
namespace L2
open PySem PySem.Spec PyProof.Rows
set_option maxHeartbeats 4000000
set_option Elab.async false
set_option linter.unusedVariables false
/-- name = [comprehension]: the name is stored while the block still stands -/
def tSetC (i : Nat) (te : TE) : TS := fun D σ H => te σ H fun v H1 => D.nx (σ.set i (some v)) H1
end L2
end
section
/-! Comprehensions with a test; ranges and reversed tuples walked by one. -/
namespace L2
open PySem PySem.Spec PyProof.Rows
set_option maxHeartbeats 4000000
set_option Elab.async false
set_option linter.unusedVariables false
theorem range_filter_succ (n : Nat) (keep : Nat → Bool) : (List.range (n + 1)).filter keep = (List.range n).filter keep ++ (if keep n = true then [n] else []) := by
  rw [List.range_succ, List.filter_append]
  congr 1
  cases h : keep n <;> simp [h]
theorem comp_sel {J : It} {g : TG} {tt : TT} {te : TE} {Q : VK} {D : Addr} {H1 : Hp} {σ0 : St} (n : Nat) (hn : n ≤ sizeLine) (keep : Nat → Bool) (f : Nat → V) (Sg : St → Prop) (itm : Nat → Hp → V → Prop) (hD : H1 D = none) (s0 : Sg σ0)
    (items : ∀ i H, Same H1 H → (i < n → J.go i H ∧ ∀ x H2, J.yld i H x H2 → Same H H2 ∧ itm i H2 x) ∧ (n ≤ i → J.stop i H))
    (step : ∀ i x σ' H, i < n → Same H1 H → itm i H x → Sg σ' → ∀ (R : St → V → Hp → Prop) (S : St → Hp → Prop), (keep i = true → ∀ σ3 y H5, Sg σ3 → Same H H5 → y = f i → R σ3 y H5) → (keep i = false → ∀ σ3 H4, Sg σ3 → Same H H4 → S σ3 H4) →
      g x σ' H fun σ3 H3 => tt σ3 H3 fun ok H4 => if ok = true then te σ3 H4 (R σ3) else S σ3 H4)
    (fin : ∀ H', Same H1 H' → H' D = some (.lst (((List.range n).filter keep).map f)) → Q (.ref D) H') :
    cmpW J g tt te Q D σ0 H1 := by
  refine ⟨fun i m σ H => m = n - i ∧ i ≤ n ∧ Sg σ ∧ Same H1 H ∧ H D = some (.lst (((List.range i).filter keep).map f)), ⟨n, by omega, Nat.zero_le _, s0, (Same.refl H1).upd_free hD _, upd_same⟩, ?_⟩
  rintro i m σ H ⟨rfl, hi, hs, sm, hd⟩
  by_cases hlt : i < n
  · obtain ⟨go, yl⟩ := (items i H sm).1 hlt
    refine .inr ⟨go, fun x H2 y => ?_⟩
    obtain ⟨s2, im⟩ := yl x H2 y
    refine step i x σ H2 hlt (sm.trans s2) im hs _ _ (fun kp σ3 y H5 g3 s5 ey => ?_) (fun kp σ3 H4 g3 s4 => ?_)
    · have ll : (((List.range i).filter keep).map f).length ≤ i := by
        rw [List.length_map]
        exact Nat.le_trans (List.length_filter_le _ _) (by rw [List.length_range]; exact Nat.le_refl _)
      refine ⟨_, s5 _ _ (s2 _ _ hd), by omega, n - (i + 1), by omega, rfl, by omega, g3, (sm.trans (s2.trans s5)).upd_free hD _, ?_⟩
      rw [upd_same, ey, range_filter_succ, if_pos kp, List.map_append]
      rfl
    · refine ⟨n - (i + 1), by omega, rfl, by omega, g3, sm.trans (s2.trans s4), ?_⟩
      rw [s4 _ _ (s2 _ _ hd), range_filter_succ, if_neg (by rw [kp]; exact Bool.false_ne_true), List.append_nil]
  · have e : i = n := by omega
    subst e
    exact .inl ⟨(items i H sm).2 (Nat.le_refl _), fin H sm hd⟩
theorem items_rng {H1 : Hp} (lo : Int) (n : Nat) (i : Nat) (H : Hp) (s : Same H1 H) :
    (i < n → (Itr lo n).go i H ∧ ∀ x H2, (Itr lo n).yld i H x H2 → Same H H2 ∧ x = .int (lo + (i : Int))) ∧ (n ≤ i → (Itr lo n).stop i H) := by
  refine ⟨fun hi => ⟨hi, fun x H2 ⟨e, y⟩ => ?_⟩, fun hi => hi⟩
  subst e
  exact ⟨Same.refl _, y⟩
end L2
end
section
/-! BALLS AND BOXES: a carrier goes from the left to the right over the boxes. -/
namespace BB
/-- at one box: the load behind it, and whether a ball lies there then -/
def stp (z L : Nat) (b : Bool) : Nat × Bool :=
  if b then (if L < z then (L + 1, false) else (L, true)) else (if 0 < L then (L - 1, true) else (0, false))
def out (z : Nat) : Nat → List Bool → List Bool
  | _, [] => []
  | L, b :: r => (stp z L b).2 :: out z (stp z L b).1 r
def fin (z : Nat) : Nat → List Bool → Nat
  | L, [] => L
  | L, b :: r => fin z (stp z L b).1 r
theorem stp_le {z L : Nat} {b : Bool} (h : L ≤ z) : (stp z L b).1 ≤ z := by
  unfold stp
  cases b <;> simp only [Bool.false_eq_true, if_false, if_true]
  · split <;> simp only <;> omega
  · split <;> simp only <;> omega
theorem stp_back {z L : Nat} {b : Bool} (h : L ≤ z) : stp z (stp z L b).1 (stp z L b).2 = (L, b) := by
  unfold stp
  cases b
  · by_cases c : 0 < L
    · simp only [Bool.false_eq_true, if_false, if_true, if_pos c]
      rw [if_pos (by omega)]
      congr 1
      omega
    · simp only [Bool.false_eq_true, if_false, if_neg c, Nat.lt_irrefl]
      congr 1
      omega
  · by_cases c : L < z
    · simp only [if_true, if_pos c, Bool.false_eq_true, if_false, Nat.succ_pos]
      rfl
    · simp only [if_true, if_neg c]
theorem out_append (z : Nat) : ∀ (L : Nat) (x y : List Bool), out z L (x ++ y) = out z L x ++ out z (fin z L x) y
  | _, [], _ => rfl
  | L, b :: r, y => by
    show _ :: out z _ (r ++ y) = _ :: (out z _ r ++ _)
    rw [out_append z _ r y]
    rfl
theorem fin_append (z : Nat) : ∀ (L : Nat) (x y : List Bool), fin z L (x ++ y) = fin z (fin z L x) y
  | _, [], _ => rfl
  | L, b :: r, y => fin_append z _ r y
theorem out_length (z : Nat) : ∀ (L : Nat) (bs : List Bool), (out z L bs).length = bs.length
  | _, [] => rfl
  | L, b :: r => by
    show (out z _ r).length + 1 = r.length + 1
    rw [out_length z _ r]
/-- from the right to the left it is all undone -/
theorem back {z : Nat} : ∀ {L : Nat} {bs : List Bool}, L ≤ z → out z (fin z L bs) (out z L bs).reverse = bs.reverse ∧ fin z (fin z L bs) (out z L bs).reverse = L
  | L, [], _ => ⟨rfl, rfl⟩
  | L, b :: r, h => by
    obtain ⟨h1, h2⟩ := back (bs := r) (stp_le (b := b) h)
    have e : (out z L (b :: r)).reverse = (out z (stp z L b).1 r).reverse ++ [(stp z L b).2] := List.reverse_cons
    have ef : fin z L (b :: r) = fin z (stp z L b).1 r := rfl
    have hb := stp_back (b := b) h
    rw [e, ef, out_append, fin_append, h1, h2]
    constructor
    · show r.reverse ++ [(stp z (stp z L b).1 (stp z L b).2).2] = _
      rw [hb, List.reverse_cons]
    · show (stp z (stp z L b).1 (stp z L b).2).1 = L
      rw [hb]
theorem count_out {z : Nat} : ∀ {L : Nat} {bs : List Bool}, (out z L bs).count true + fin z L bs = L + bs.count true
  | L, [] => by simp [out, fin]
  | L, b :: r => by
    have ih := count_out (z := z) (L := (stp z L b).1) (bs := r)
    have e1 : out z L (b :: r) = (stp z L b).2 :: out z (stp z L b).1 r := rfl
    have e2 : fin z L (b :: r) = fin z (stp z L b).1 r := rfl
    rw [e1, e2, List.count_cons, List.count_cons]
    have k : (stp z L b).1 + (if (stp z L b).2 == true then 1 else 0) = L + (if b == true then 1 else 0) := by
      unfold stp
      cases b
      · simp only [Bool.false_eq_true, if_false]
        split <;> simp <;> omega
      · simp only [if_true]
        split <;> simp
    omega
/-- the places of the balls -/
def places : Int → List Bool → List Int
  | _, [] => []
  | lo, b :: r => (if b = true then [lo] else []) ++ places (lo + 1) r
theorem places_append : ∀ (lo : Int) (x y : List Bool), places lo (x ++ y) = places lo x ++ places (lo + (x.length : Int)) y
  | lo, [], y => by show places lo y = places (lo + ((0 : Nat) : Int)) y; congr 1; omega
  | lo, b :: r, y => by
    show _ ++ places (lo + 1) (r ++ y) = (_ ++ places (lo + 1) r) ++ places (lo + ((r.length + 1 : Nat) : Int)) y
    rw [places_append (lo + 1) r y, List.append_assoc]
    congr 3
    omega
theorem places_length : ∀ (lo : Int) (bs : List Bool), (places lo bs).length = bs.count true
  | _, [] => rfl
  | lo, b :: r => by
    show (_ ++ places (lo + 1) r).length = _
    rw [List.length_append, places_length (lo + 1) r, List.count_cons]
    cases b <;> simp <;> omega
theorem places_ge : ∀ {lo : Int} {bs : List Bool} {p : Int}, p ∈ places lo bs → lo ≤ p ∧ p < lo + (bs.length : Int)
  | lo, [], p, h => by cases h
  | lo, b :: r, p, h => by
    rcases List.mem_append.mp (show p ∈ (if b = true then [lo] else []) ++ places (lo + 1) r from h) with h | h
    · cases b
      · cases h
      · have : p = lo := by simpa using h
        subst this
        simp only [List.length_cons]
        omega
    · have := places_ge h
      simp only [List.length_cons]
      omega
theorem places_up : ∀ (lo : Int) (bs : List Bool), (places lo bs).Pairwise (· < ·)
  | _, [] => .nil
  | lo, b :: r => by
    refine List.pairwise_append.mpr ⟨by cases b <;> simp, places_up (lo + 1) r, fun x hx y hy => ?_⟩
    have := places_ge hy
    cases b
    · cases hx
    · have : x = lo := by simpa using hx
      omega
/-- as many places on from lo -/
def row (lo : Int) (n : Nat) : List Int := (List.range n).map fun (k : Nat) => lo + (k : Int)
theorem row_zero (lo : Int) : row lo 0 = [] := rfl
theorem row_succ (lo : Int) (n : Nat) : row lo (n + 1) = lo :: row (lo + 1) n := by
  unfold row
  rw [List.range_succ_eq_map, List.map_cons, List.map_map]
  congr 1
  · show lo + ((0 : Nat) : Int) = lo
    omega
  · refine List.map_congr_left fun k _ => ?_
    show lo + ((k + 1 : Nat) : Int) = lo + 1 + (k : Int)
    omega
/-- ball by ball -/
def sp (z : Nat) : Nat → Int → List Int → List Int
  | L, box, [] => row box L
  | L, box, p :: r => row box (min L (p - box).toNat) ++
    (if L - min L (p - box).toNat < z then sp z (L - min L (p - box).toNat + 1) (p + 1) r else p :: sp z (L - min L (p - box).toNat) (p + 1) r)
theorem sp_gap {z L : Nat} {lo : Int} {rw_ : List Int} (h : ∀ p ∈ rw_, lo + 1 ≤ p) : sp z L lo rw_ = if 0 < L then lo :: sp z (L - 1) (lo + 1) rw_ else sp z 0 (lo + 1) rw_ := by
  cases rw_ with
  | nil =>
    show row lo L = if 0 < L then lo :: row (lo + 1) (L - 1) else row (lo + 1) 0
    cases L with
    | zero => rfl
    | succ L => rw [if_pos (Nat.succ_pos L), row_succ]; rfl
  | cons p r =>
    have hp := h p (List.mem_cons_self ..)
    cases L with
    | zero =>
      rw [if_neg (by omega)]
      unfold sp
      rw [Nat.zero_min, Nat.zero_min]
      rfl
    | succ L =>
      rw [if_pos (Nat.succ_pos L)]
      have e : min (L + 1) (p - lo).toNat = min L (p - (lo + 1)).toNat + 1 := by omega
      unfold sp
      rw [e, row_succ, show L + 1 - 1 = L from rfl, show L + 1 - (min L (p - (lo + 1)).toNat + 1) = L - min L (p - (lo + 1)).toNat by omega]
      rfl
theorem sp_places (z : Nat) : ∀ (L : Nat) (lo : Int) (bs : List Bool), sp z L lo (places lo bs) = places lo (out z L bs) ++ row (lo + (bs.length : Int)) (fin z L bs)
  | L, lo, [] => by
    show row lo L = [] ++ row (lo + ((0 : Nat) : Int)) L
    rw [List.nil_append]
    congr 1
    omega
  | L, lo, false :: r => by
    have e : places lo (false :: r) = places (lo + 1) r := rfl
    rw [e, sp_gap fun p hp => (places_ge hp).1]
    have el : lo + 1 + (r.length : Int) = lo + ((false :: r).length : Int) := by simp only [List.length_cons]; omega
    by_cases c : 0 < L
    · rw [if_pos c, sp_places z (L - 1) (lo + 1) r, el]
      have e1 : stp z L false = (L - 1, true) := by unfold stp; simp only [Bool.false_eq_true, if_false, if_pos c]
      show _ = ((if (stp z L false).2 = true then [lo] else []) ++ places (lo + 1) (out z (stp z L false).1 r)) ++ row _ (fin z (stp z L false).1 r)
      rw [e1]
      rfl
    · rw [if_neg c, sp_places z 0 (lo + 1) r, el]
      have e1 : stp z L false = (0, false) := by unfold stp; simp only [Bool.false_eq_true, if_false, if_neg c]
      show _ = ((if (stp z L false).2 = true then [lo] else []) ++ places (lo + 1) (out z (stp z L false).1 r)) ++ row _ (fin z (stp z L false).1 r)
      rw [e1]
      rfl
  | L, lo, true :: r => by
    have e : places lo (true :: r) = lo :: places (lo + 1) r := rfl
    have el : lo + 1 + (r.length : Int) = lo + ((true :: r).length : Int) := by simp only [List.length_cons]; omega
    rw [e]
    unfold sp
    have em : min L (lo - lo).toNat = 0 := by rw [Int.sub_self]; exact Nat.min_zero L
    rw [em, row_zero, List.nil_append, Nat.sub_zero]
    by_cases c : L < z
    · rw [if_pos c, sp_places z (L + 1) (lo + 1) r, el]
      have e1 : stp z L true = (L + 1, false) := by unfold stp; simp only [if_true, if_pos c]
      show _ = ((if (stp z L true).2 = true then [lo] else []) ++ places (lo + 1) (out z (stp z L true).1 r)) ++ row _ (fin z (stp z L true).1 r)
      rw [e1]
      rfl
    · rw [if_neg c, sp_places z L (lo + 1) r, el]
      have e1 : stp z L true = (L, true) := by unfold stp; simp only [if_true, if_neg c]
      show _ = ((if (stp z L true).2 = true then [lo] else []) ++ places (lo + 1) (out z (stp z L true).1 r)) ++ row _ (fin z (stp z L true).1 r)
      rw [e1]
      rfl
theorem sp_free {z : Nat} {box box' : Int} : ∀ {r : List Int}, sp z 0 box r = sp z 0 box' r
  | [] => rfl
  | p :: r => by
    unfold sp
    rw [Nat.zero_min, Nat.zero_min]
    rfl
/-- the row behind a step of a carrier -/
def step (z : Nat) (r : List Int) : List Int := sp z 0 (r.headD 0) r
theorem step_places {z : Nat} {lo : Int} {bs : List Bool} (h : fin z 0 bs = 0) : step z (places lo bs) = places lo (out z 0 bs) := by
  unfold step
  rw [sp_free (box' := lo), sp_places, h, row_zero, List.append_nil]
/-- every rising row is the places of some boxes -/
theorem cells : ∀ (n : Nat) (lo : Int) (r : List Int), r.Pairwise (· < ·) → (∀ p ∈ r, lo ≤ p ∧ p < lo + (n : Int)) → ∃ bs : List Bool, bs.length = n ∧ places lo bs = r
  | 0, lo, r, _, h => by
    cases r with
    | nil => exact ⟨[], rfl, rfl⟩
    | cons p r => have := h p (List.mem_cons_self ..); omega
  | n + 1, lo, r, up, h => by
    cases r with
    | nil =>
      obtain ⟨bs, e1, e2⟩ := cells n (lo + 1) [] .nil (fun p hp => by cases hp)
      exact ⟨false :: bs, by rw [List.length_cons, e1], e2⟩
    | cons p r =>
      obtain ⟨u1, u2⟩ := List.pairwise_cons.mp up
      have hp := h p (List.mem_cons_self ..)
      by_cases c : p = lo
      · subst c
        obtain ⟨bs, e1, e2⟩ := cells n (p + 1) r u2 fun q hq => by
          have := u1 q hq
          have := h q (List.mem_cons_of_mem _ hq)
          omega
        refine ⟨true :: bs, by rw [List.length_cons, e1], ?_⟩
        show [p] ++ places (p + 1) bs = _
        rw [e2]
        rfl
      · obtain ⟨bs, e1, e2⟩ := cells n (lo + 1) (p :: r) up fun q hq => by
          have := h q hq
          rcases List.mem_cons.mp hq with rfl | hq'
          · omega
          · have := u1 q hq'
            omega
        exact ⟨false :: bs, by rw [List.length_cons, e1], e2⟩
theorem fin_falses (z : Nat) : ∀ (k L : Nat), fin z L (List.replicate k false) = L - k
  | 0, L => rfl
  | k + 1, L => by
    show fin z (stp z L false).1 (List.replicate k false) = _
    rw [fin_falses z k]
    unfold stp
    simp only [Bool.false_eq_true, if_false]
    split <;> simp only <;> omega
theorem places_falses : ∀ (k : Nat) (lo : Int), places lo (List.replicate k false) = []
  | 0, _ => rfl
  | k + 1, lo => places_falses k (lo + 1)
/-- with boxes enough behind, the carrier ends with nothing -/
theorem window (z : Nat) {A B : Int} {r : List Int} (up : r.Pairwise (· < ·)) (h : ∀ p ∈ r, A ≤ p ∧ p ≤ B) : ∃ bs : List Bool, places A bs = r ∧ fin z 0 bs = 0 ∧ bs.count true = r.length ∧ (r ≠ [] → A + (bs.length : Int) ≤ B + 1 + (r.length : Int)) := by
  obtain ⟨bs, e1, e2⟩ := cells (B + 1 - A).toNat A r up fun p hp => by have := h p hp; omega
  have hc : bs.count true = r.length := by rw [← places_length A bs, e2]
  have hf : fin z 0 bs ≤ r.length := by have := count_out (z := z) (L := 0) (bs := bs); omega
  refine ⟨bs ++ List.replicate (fin z 0 bs) false, ?_, ?_, ?_, fun ne => ?_⟩
  · rw [places_append, places_falses, List.append_nil, e2]
  · rw [fin_append, fin_falses, Nat.sub_self]
  · rw [List.count_append, hc]
    have : (List.replicate (fin z 0 bs) false).count true = 0 := by simp [List.count_replicate]
    omega
  · cases r with
    | nil => exact absurd rfl ne
    | cons p r =>
      have := h p (List.mem_cons_self ..)
      rw [List.length_append, List.length_replicate, e1]
      omega
/-- rising, so many, between A and B -/
structure Rw (r : List Int) (k : Nat) (A B : Int) : Prop where
  up : r.Pairwise (· < ·)
  len : r.length = k
  bd : ∀ p ∈ r, A ≤ p ∧ p ≤ B
theorem Rw.mono {r : List Int} {k : Nat} {A B A' B' : Int} (h : Rw r k A B) (ha : A' ≤ A) (hb : B ≤ B') : Rw r k A' B' := ⟨h.up, h.len, fun p hp => by have := h.bd p hp; omega⟩
theorem Rw.step {r : List Int} {k : Nat} {A B : Int} (z : Nat) (h : Rw r k A B) : Rw (step z r) k A (B + (k : Int)) := by
  obtain ⟨bs, e1, e2, e3, e4⟩ := window z h.up h.bd
  have hc := count_out (z := z) (L := 0) (bs := bs)
  rw [← e1, step_places e2]
  refine ⟨places_up _ _, by rw [places_length]; have := h.len; omega, fun p hp => ?_⟩
  have := places_ge hp
  rw [out_length] at this
  have ne : r ≠ [] := fun w => by
    have : (places A (out z 0 bs)).length = 0 := by rw [places_length]; rw [w] at e3; simp only [List.length_nil] at e3; omega
    rw [List.length_eq_zero_iff] at this
    rw [this] at hp
    cases hp
  have := e4 ne
  have := h.len
  omega
end BB
end
section
/-! Steps again and again, shifts, loads. -/
namespace BB
def it (f : List Int → List Int) : Nat → List Int → List Int
  | 0, r => r
  | n + 1, r => f (it f n r)
theorem Rw.its {z : Nat} {r : List Int} {k : Nat} {A B : Int} (h : Rw r k A B) : ∀ n : Nat, Rw (it (BB.step z) n r) k A (B + (n : Int) * (k : Int))
  | 0 => by
    show Rw r k A (B + ((0 : Nat) : Int) * (k : Int))
    rw [show ((0 : Nat) : Int) * (k : Int) = 0 by simp, Int.add_zero]
    exact h
  | n + 1 => by
    have := (h.its (z := z) n).step z
    rw [show B + ((n + 1 : Nat) : Int) * (k : Int) = B + (n : Int) * (k : Int) + (k : Int) by rw [Int.natCast_add, Int.add_mul]; omega]
    exact this
/-! shifts -/
/-! loads -/
def ld (L : Nat) (b : Bool) : Nat := if b then L + 1 else L - 1
def lst : Nat → List Bool → Nat
  | L, [] => L
  | L, b :: r => lst (ld L b) r
end BB
end
section
/-! name = [comprehension over one name]; two more built-ins. -/
namespace L2
open PySem PySem.Spec PyProof.Rows
set_option maxHeartbeats 4000000
set_option Elab.async false
set_option linter.unusedVariables false
structure Nb2 (mg : Str → Option Value) : Prop extends Nb mg where
  rev : mg "reversed" = none
  abs : mg "abs" = none
section
variable {X : Cx} {elt iter : Expr} {ifs : List Expr} {scope : Scope} {pos pos' spos : Pos} {N : List Str} {js : List Nat} {sc : Scope} {N0 : List Str} {wi : TI} {tt : TT} {te : TE} {x nm : Str} {px : Pos} {ii : Nat}
end
end L2
end
section
set_option Elab.async false
set_option linter.all false
set_option maxRecDepth 100000
namespace L2
open PySem PySem.Spec PyProof.Rows

/-! ### lists of pairs as tables -/
section
variable {κ : Type} [DecidableEq κ]
def valV (kvs : List (κ × V)) (k : κ) : Option V := (kvs.find? fun kv => decide (kv.1 = k)).map (·.2)
/-- in its place, or at the end -/
def putK (kvs : List (κ × V)) (k : κ) (v : V) : List (κ × V) :=
  if (kvs.any fun kv => decide (kv.1 = k)) = true then kvs.map (fun kv => if kv.1 = k then (kv.1, v) else kv) else kvs ++ [(k, v)]
def dropK (kvs : List (κ × V)) (k : κ) : List (κ × V) := kvs.filter fun kv => decide (kv.1 ≠ k)

theorem valV_pos {p : κ × V} {r : List (κ × V)} {k : κ} (e : p.1 = k) : valV (p :: r) k = some p.2 := by simp [valV, List.find?_cons, e]
theorem valV_neg {p : κ × V} {r : List (κ × V)} {k : κ} (e : ¬ p.1 = k) : valV (p :: r) k = valV r k := by simp [valV, List.find?_cons, e]
theorem RelO.getD {o : Option V} {u : Option Value} {d : V} {d' : Value} (r : RelO o u) (rd : RelV d d') : RelV (o.getD d) (u.getD d') := by
  cases o with
  | none => cases u with
    | none => exact rd
    | some _ => exact (show False from r).elim
  | some _ => cases u with
    | none => exact (show False from r).elim
    | some _ => exact r

/-- raw tables of the same keys -/
theorem KV.val {kvs : List (κ × V)} {vs : List (κ × Value)} (r : KV kvs vs) (k : κ) : RelO (valV kvs k) (valueAt vs k) := by
  unfold KV at r
  induction r with
  | nil => exact True.intro
  | @cons p q ps qs h t ih =>
    obtain ⟨h1, h2⟩ := h
    by_cases e : p.1 = k
    · have e' : q.1 = k := h1.symm.trans e
      have b : valueAt (q :: qs) k = some q.2 := by simp [valueAt, List.find?_cons, e']
      rw [valV_pos e, b]; exact h2
    · have e' : ¬ q.1 = k := fun z => e (h1.trans z)
      have b : valueAt (q :: qs) k = valueAt qs k := by simp [valueAt, List.find?_cons, e']
      rw [valV_neg e, b]; exact ih
theorem KV.any {kvs : List (κ × V)} {vs : List (κ × Value)} (r : KV kvs vs) (k : κ) : (kvs.any fun kv => decide (kv.1 = k)) = vs.any fun kv => decide (kv.1 = k) := by
  unfold KV at r
  induction r with
  | nil => rfl
  | cons h t ih => rw [List.any_cons, List.any_cons, ih, h.1]
theorem KV.drop {kvs : List (κ × V)} {vs : List (κ × Value)} (r : KV kvs vs) (k : κ) : KV (dropK kvs k) (without vs k) := by
  unfold KV at r ⊢
  unfold dropK without
  induction r with
  | nil => exact .nil
  | @cons p q ps qs h t ih =>
    obtain ⟨h1, h2⟩ := h
    rw [List.filter_cons, List.filter_cons]
    by_cases e : p.1 = k
    · have a : ¬ decide (p.1 ≠ k) = true := by simp [e]
      have b : ¬ decide (q.1 ≠ k) = true := by simp [h1.symm.trans e]
      rw [if_neg a, if_neg b]; exact ih
    · have e' : ¬ q.1 = k := fun z => e (h1.trans z)
      have a : decide (p.1 ≠ k) = true := by simp [e]
      have b : decide (q.1 ≠ k) = true := by simp [e']
      rw [if_pos a, if_pos b]; exact .cons ⟨h1, h2⟩ ih
theorem KV.length {kvs : List (κ × V)} {vs : List (κ × Value)} (r : KV kvs vs) : kvs.length = vs.length := Paired.length r
end


/-! ### a tracked dict, its keys ints and texts or tuples of these -/
/-- raw entries of a dict with tuple keys -/
abbrev KT (H : Hp) : List (List Key × V) → List (List Key × Addr × Value) → Prop := Paired fun p q => p.1 = q.1 ∧ H q.2.1 = some (.tup (p.1.map kV)) ∧ RelV p.2 q.2.2
theorem KT.val {H : Hp} {kvs : List (List Key × V)} {xs : List (List Key × Addr × Value)} (r : KT H kvs xs) (k : List Key) : RelO (valV kvs k) ((atKey xs k).map (·.2)) := by
  induction r with
  | nil => exact True.intro
  | @cons p q ps qs h t ih =>
    obtain ⟨h1, _, h2⟩ := h
    by_cases e : p.1 = k
    · have e' : q.1 = k := h1.symm.trans e
      have b : atKey (q :: qs) k = some q.2 := by simp [atKey, List.find?_cons, e']
      rw [valV_pos e, b]; exact h2
    · have e' : ¬ q.1 = k := fun z => e (h1.trans z)
      have b : atKey (q :: qs) k = atKey qs k := by simp [atKey, List.find?_cons, e']
      rw [valV_neg e, b]; exact ih
theorem KT.keeps {H H' : Hp} {kvs : List (List Key × V)} {xs : List (List Key × Addr × Value)} (r : KT H kvs xs) (ht : ∀ b ys, H b = some (.tup ys) → H' b = some (.tup ys)) : KT H' kvs xs :=
  Paired.mapP r fun _ _ z => ⟨z.1, ht _ _ z.2.1, z.2.2⟩

section
variable {P : Program} {w : World} {H : Hp} {h : Heap} {a : Addr}
end

/-- what the dict at a holds at the key y -/
def DGet (H : Hp) (a : Addr) (y : V) (r : Option V) : Prop :=
  (∃ kvs k, Rd H a (.dK kvs) ∧ y = kV k ∧ r = valV kvs k) ∨ ∃ kvs k b, Rd H a (.dT kvs) ∧ y = .ref b ∧ H b = some (.tup (k.map kV)) ∧ r = valV kvs k
/-- the heap behind a[y] = v -/
def DPut (H : Hp) (a : Addr) (y v : V) (H' : Hp) : Prop :=
  (∃ kvs k, H a = some (.dK kvs) ∧ y = kV k ∧ kvs.length < sizeLine ∧ H' = upd H a (.dK (putK kvs k v))) ∨
  ∃ kvs k b, H a = some (.dT kvs) ∧ y = .ref b ∧ H b = some (.tup (k.map kV)) ∧ kvs.length < sizeLine ∧ H' = upd H a (.dT (putK kvs k v))
theorem DGet.k {H : Hp} {a : Addr} {kvs : List (Key × V)} {k : Key} (e : H a = some (.dK kvs)) : DGet H a (kV k) (valV kvs k) := .inl ⟨kvs, k, .inl e, rfl, rfl⟩
theorem DGet.t {H : Hp} {a b : Addr} {kvs : List (List Key × V)} {k : List Key} (e : H a = some (.dT kvs)) (eb : H b = some (.tup (k.map kV))) : DGet H a (.ref b) (valV kvs k) := .inr ⟨kvs, k, b, .inl e, rfl, eb, rfl⟩
theorem DPut.k {H : Hp} {a : Addr} {kvs : List (Key × V)} {k : Key} {v : V} (e : H a = some (.dK kvs)) (hl : kvs.length < sizeLine) : DPut H a (kV k) v (upd H a (.dK (putK kvs k v))) := .inl ⟨kvs, k, e, rfl, hl, rfl⟩
theorem DPut.t {H : Hp} {a b : Addr} {kvs : List (List Key × V)} {k : List Key} {v : V} (e : H a = some (.dT kvs)) (eb : H b = some (.tup (k.map kV))) (hl : kvs.length < sizeLine) :
    DPut H a (.ref b) v (upd H a (.dT (putK kvs k v))) := .inr ⟨kvs, k, b, e, rfl, eb, hl, rfl⟩


section
variable {X : Cx} {pins : List (Addr × Obj)} {σ : St} {H : Hp} {s : Shared} {a : Addr} {y v : V} {u r : Value} {o : Option V} {A : Around} {E : Value → Shared → Prop}

theorem Inv.big (I : Inv X pins σ H s) : sysModules < s.heap.objs.size := by
  have h : mainGlobals < s.heap.objs.size := (I.mod.glob.keeps I.bk).lt
  exact Nat.lt_trans (by decide) h

end

section
variable {X : Cx} {pins : List (Addr × Obj)} {σ : St} {H : Hp} {s : Shared} {a : Addr} {kvs : List (Key × V)} {k : Key} {u : Value} {A : Around} {E : Value → Shared → Prop}
end


/-! ### readings and rules -/
section
variable {X : Cx} {o i e value : Expr} {pos pos' tpos : Pos} {td ty tv : TE}
end


/-! ### displays -/
section
variable {X : Cx} {pos : Pos}
end

/-! ### methods -/
/-- a method call o.m(e) of a built-in, with one argument: what must be seen of the text -/
structure M1 (X : Cx) (o : Expr) (m : Str) (apos : Pos) (e : Expr) (cpos : Pos) : Prop where
  base : attributeBase o m X.env (eval o X.env) = eval o X.env
  few : ((backTo cpos (starEach [e] X.env)).all (fun x => !x.1) && (backToKw cpos (keywordEach [] X.env)).all (fun x => x.1.isSome)
    && decide (([e] : List Expr).length + ([] : List Keyword).length + (if ([] : List Keyword).isEmpty then 0 else 1) < 30)) = true
  line : (apos.endLine == cpos.line) = true
  trees : backTo cpos (starEach [e] X.env) = [(false, eval e X.env)]
structure M2 (X : Cx) (o : Expr) (m : Str) (apos : Pos) (e f : Expr) (cpos : Pos) : Prop where
  base : attributeBase o m X.env (eval o X.env) = eval o X.env
  few : ((backTo cpos (starEach [e, f] X.env)).all (fun x => !x.1) && (backToKw cpos (keywordEach [] X.env)).all (fun x => x.1.isSome)
    && decide (([e, f] : List Expr).length + ([] : List Keyword).length + (if ([] : List Keyword).isEmpty then 0 else 1) < 30)) = true
  line : (apos.endLine == cpos.line) = true
  trees : backTo cpos (starEach [e, f] X.env) = [(false, eval e X.env), (false, eval f X.env)]

section
variable {X : Cx} {pins : List (Addr × Obj)} {σ : St} {H : Hp} {s : Shared} {a : Addr} {y d : V} {u r : Value} {o : Option V} {A : Around} {E : Value → Shared → Prop}
end

section
variable {X : Cx} {o e f : Expr} {apos cpos : Pos} {td ty tx : TE}
end

/-! ### dict(d): a copy -/
section
variable {X : Cx} {pins : List (Addr × Obj)} {σ : St} {H : Hp} {s : Shared} {a : Addr} {kvs : List (Key × V)} {A : Around} {E : Value → Shared → Prop}
end


section
variable {X : Cx} {pins : List (Addr × Obj)} {σ : St} {H : Hp} {s : Shared} {a : Addr} {y : V} {u : Value} {A : Around} {E : Value → Shared → Prop}
end
end L2
namespace L2
open PySem PySem.Spec PyProof.Rows
/-! ### a dict's pairs: keys that differ -/
section
variable {κ : Type} [DecidableEq κ]
end
end L2
end
section
/-! sorted(d) of a dict with int keys. -/
namespace L2
open PySem PySem.Spec PyProof.Rows
set_option maxHeartbeats 4000000
set_option maxRecDepth 100000
set_option Elab.async false
set_option linter.unusedVariables false
section
variable {X : Cx}
end
end L2
end
section
/-! isinstance(x, (list, tuple)); zip of two tuples or two lists, whichever. -/
namespace L2
open PySem PySem.Spec PyProof.Rows
set_option maxHeartbeats 4000000
set_option maxRecDepth 100000
set_option Elab.async false
set_option linter.unusedVariables false
section
variable {X : Cx} {pins : List (Addr × Obj)} {σ : St} {H : Hp} {s : Shared} {A : Around} {E : Value → Shared → Prop} {Q : Value → Shared → Prop}
def seqT (T : String) : Bool := T == "list" || T == "tuple"
theorem isi_many {x : V} {u : Value} {T : String} {p : Addr} {its : List Value} {b : Bool} (I : Inv X pins σ H s) (rx : RelV x u) (hk : Kn H x T) (hp : IsTup s.heap p its.toArray) (e : PySem.W.kitAny X.K (.type T) its = some b)
    (h : ∀ tk, Q (.bool b) { s with toks := tk }) : wpAny (model X.prog X.w) A (call (.builtin "isinstance") [u, .ref p]) Q E s := by
  obtain ⟨⟨c, dd, da, sl⟩, ho, hc, n, hd⟩ := hp
  simp only at hc hd
  subst hc hd
  cases hk with
  | non => cases (show u = Value.none from rx); exact PySem.W.kia_tup PySem.W.kitx_none I.kIn True.intro ho e (fun z => nomatch z) h
  | bl y => cases (show u = Value.bool y from rx); exact PySem.W.kia_tup PySem.W.kitx_bool I.kIn True.intro ho e (fun z => nomatch z) h
  | int i => obtain ⟨t, q⟩ := (show ∃ t, u = Value.int i t from rx); cases q; exact PySem.W.kia_tup PySem.W.kitx_int I.kIn True.intro ho e (fun z => nomatch z) h
  | str y => obtain ⟨t, q⟩ := (show ∃ t, u = Value.str y t from rx); cases q; exact PySem.W.kia_tup PySem.W.kitx_str I.kIn True.intro ho e (fun z => nomatch z) h
  | @lst a xs ea =>
    cases (show u = Value.ref a from rx)
    obtain ⟨_, _, n, _, h1⟩ := (show ObjOk X.prog X.w H s.heap a (.lst xs) from I.hok a _ ea)
    exact PySem.W.kia_tup PySem.W.kitx_list I.kIn ⟨_, h1, rfl⟩ ho e (fun z => nomatch z) h
  | @tup a xs ea =>
    cases (show u = Value.ref a from rx)
    obtain ⟨_, _, _, o, h1, hc, _⟩ := (show ObjOk X.prog X.w H s.heap a (.tup xs) from I.hok a _ ea)
    exact PySem.W.kia_tup PySem.W.kitx_tuple I.kIn ⟨o, h1, hc⟩ ho e (fun z => nomatch z) h
  | @dK a kvs ea =>
    cases (show u = Value.ref a from rx)
    obtain ⟨_, _, _, _, m⟩ := (show ObjOk X.prog X.w H s.heap a (.dK kvs) from I.hok a _ ea)
    exact PySem.W.kia_tup PySem.W.kitx_dict I.kIn m.typeIs ho e (fun z => nomatch z) h
theorem any_seq {K : PySem.W.Frag} {H : Hp} {x : V} {T : String} (h : Kn H x T) : PySem.W.kitAny K (.type T) [.type "list", .type "tuple"] = some (seqT T) ∧ PySem.W.kitAny K (.type T) [.type "tuple", .type "list"] = some (seqT T) := by
  cases h <;> exact ⟨rfl, rfl⟩
end
section
variable {X : Cx}
theorem call_isiT : CallR X (.builtin "isinstance") (fun xs H Q => ∃ x T p, xs = [x, .ref p] ∧ Kn H x T ∧ (H p = some (.tup [.ty "list", .ty "tuple"]) ∨ H p = some (.tup [.ty "tuple", .ty "list"])) ∧ Q (.bl (seqT T)) H) := by
  intro pins s σ H xs us Q I r h
  obtain ⟨x, T, p, rfl, hk, hp, q⟩ := h
  obtain ⟨u, c, rfl, rx, rc⟩ := vals2 r
  cases (show c = Value.ref p from rc)
  have two : ∀ (U W : String), H p = some (.tup [.ty U, .ty W]) → IsTup s.heap p [Value.type U, Value.type W].toArray := fun U W e => by
    obtain ⟨_, its, rv, ht⟩ := (show ObjOk X.prog X.w H s.heap p (.tup [.ty U, .ty W]) from I.hok p _ e)
    obtain ⟨a, b, rfl, ra, rb⟩ := vals2 rv
    cases (show a = Value.type U from ra)
    cases (show b = Value.type W from rb)
    exact ht
  rcases hp with hp | hp
  · exact isi_many I rx hk (two _ _ hp) (any_seq hk).1 fun tk => ⟨.bl (seqT T), H, I.tok tk, rfl, q⟩
  · exact isi_many I rx hk (two _ _ hp) (any_seq hk).2 fun tk => ⟨.bl (seqT T), H, I.tok tk, rfl, q⟩
def iZipE (K : PySem.W.Frag) (ta : TA) : TI := fun σ H R => ta σ H fun vs H1 => ∃ t l m xs ys, vs = [.ref l, .ref m] ∧ SqK t K H1 l xs ∧ SqK t K H1 m ys ∧ R (Itz t K l m) H1
theorem pi_zipE {es : List Expr} {k0 : Nat} {tp : Pos} {a b : Expr} {ta : TA} {p pos : Pos} (hg : Gl X "zip") (hm : X.mg "zip" = none) (ha : PA X [a, b] ta) (hs : starEach [a, b] X.env = [(false, eval a X.env), (false, eval b X.env)] := by rfl) (hs2 : starEach [b] X.env = [(false, eval b X.env)] := by rfl) :
    PI X (.Tuple es k0 tp) (.Call (.Name "zip" p) [a, b] [] pos) (iZipE X.K ta) := by
  intro pins s σ H R I h
  refine Call_ (ld_blt I hg hm boot_zip (PyProof.Rows.callWith_type1 (thn (ha pos pins s σ H _ I h) fun us s1 ⟨vs, H1, I1, r1, q1⟩ => ?_) (by rw [hs, hs2]) (by rw [hs2]; rfl)))
  obtain ⟨t, l, m, xs, ys, e, hl, hm', q⟩ := q1
  subst e
  obtain ⟨u, u', rfl, ru, ru'⟩ := vals2 r1
  cases (show u = Value.ref l from ru)
  cases (show u' = Value.ref m from ru')
  obtain ⟨its, _, ⟨ol, eol, _⟩, _⟩ := I1.sqk hl
  obtain ⟨jts, _, ⟨om, eom, _⟩, _⟩ := I1.sqk hm'
  have ll : l < s1.heap.objs.size := Heap.lt_size eol
  have lm : m < s1.heap.objs.size := Heap.lt_size eom
  have fin : ∀ h' : Heap, IsZip h' (s1.heap.objs.size + 4) (s1.heap.objs.size + 2) (s1.heap.objs.size + 3) .none → IsPair h' (s1.heap.objs.size + 2) (.ref s1.heap.objs.size) (.ref (s1.heap.objs.size + 1)) →
      IsPair h' (s1.heap.objs.size + 3) .none .none → ItAt t s1.heap.objs.size l 0 h' → ItAt t (s1.heap.objs.size + 1) m 0 h' → (∀ c o, s1.heap.get? c = some o → h'.get? c = some o) →
      wpAny (model X.prog X.w) X.A (pyIter (.ref (s1.heap.objs.size + 4))) (PIE X pins σ (.Tuple es k0 tp) R) X.xe { s1 with heap := h' } := fun h' z1 z2 z3 z4 z5 kp => by
    have I2 : Inv X pins σ H1 { s1 with heap := h' } := I1.kept (t' := s1.toks) kp
    refine wpAny_pyIter_zip z1 ⟨s1.heap.objs.size + 4, [s1.heap.objs.size + 4, s1.heap.objs.size + 2, s1.heap.objs.size + 3, s1.heap.objs.size, s1.heap.objs.size + 1], _, _, H1, rfl, I2,
      turn_zip (t := t) (l := l) (m := m) (apart_nat _ (a := 2) (b := 4) (by decide)) (apart_nat _ (a := 3) (b := 4) (by decide)) (apart_nat _ (a := 0) (b := 4) (by decide)) (apart_nat _ (a := 1) (b := 4) (by decide)) (apart_nat _ (a := 2) (b := 3) (by decide)) (apart_nat _ (a := 2) (b := 0) (by decide)) (apart_nat _ (a := 2) (b := 1) (by decide)) (apart_nat _ (a := 3) (b := 0) (by decide)) (apart_nat _ (a := 3) (b := 1) (by decide)) (apart_nat _ (a := 0) (b := 1) (by decide)) (fun z => ?_) (fun z => ?_), ⟨z1, z2, ⟨_, _, z3⟩, z4, z5⟩, fun c hc => ?_, q⟩
    · simp only [List.mem_cons, List.not_mem_nil, or_false] at z; exact not_fresh5 ll z
    · simp only [List.mem_cons, List.not_mem_nil, or_false] at z; exact not_fresh5 lm z
    · have hcs : s1.heap.objs.size ≤ c := by simp only [List.mem_cons, List.not_mem_nil, or_false] at hc; exact fresh5 hc
      exact I1.fpOk hcs (I1.hok.fresh hcs)
  cases t
  · obtain ⟨its, _, pl, _⟩ := I1.list (show SqL X.K H1 l xs from hl)
    obtain ⟨jts, _, pm, _⟩ := I1.list (show SqL X.K H1 m ys from hm')
    exact call_zip_2 pl.isList pm.isList fun h' z1 z2 z3 z4 z5 _ kp => fin h' z1 z2 z3 z4 z5 kp
  · obtain ⟨its, _, pl, _⟩ := I1.tuple (show SqT X.K H1 l xs from hl)
    obtain ⟨jts, _, pm, _⟩ := I1.tuple (show SqT X.K H1 m ys from hm')
    exact zip_tups pl pm fun h' z1 z2 z3 z4 z5 kp => fin h' z1 z2 z3 z4 z5 kp
theorem items_zipL {K : PySem.W.Frag} {a b : Addr} {xs ys : List V} {H1 : Hp} (h : H1 a = some (.lst xs)) (h' : H1 b = some (.lst ys)) (i : Nat) (H : Hp) (s : Same H1 H) :
    (i < min xs.length ys.length → (Itz false K a b).go i H ∧ ∀ v H2, (Itz false K a b).yld i H v H2 → Same H H2 ∧ ∃ p x y, v = .ref p ∧ H2 p = some (.tup [x, y]) ∧ xs[i]? = some x ∧ ys[i]? = some y) ∧ (min xs.length ys.length ≤ i → (Itz false K a b).stop i H) := by
  have q : SqK false K H a xs := SqL.of (s _ _ h)
  have q' : SqK false K H b ys := SqL.of (s _ _ h')
  refine ⟨fun hi => ⟨⟨xs, ys, xs[i]'(by omega), ys[i]'(by omega), q, q', List.getElem?_eq_getElem (by omega), List.getElem?_eq_getElem (by omega)⟩, fun v H2 ⟨p, x, y, e1, e2, e3, e4, e5⟩ => ?_⟩, fun hi => ⟨xs, ys, q, q', ?_⟩⟩
  · subst e3
    exact ⟨same_new e2 _, p, x, y, e1, upd_same, e4 xs q, e5 ys q'⟩
  · by_cases hx : xs.length ≤ i
    · exact .inl (List.getElem?_eq_none hx)
    · exact .inr (List.getElem?_eq_none (by omega))
/-- two things that are the same, n deep -/
def Sm (H : Hp) : Nat → V → V → Prop
  | 0, x, y => (x = y ∧ ((∃ i, x = .int i) ∨ (∃ b, x = .bl b) ∨ (∃ z, x = .str z) ∨ x = .non))
  | n + 1, x, y => (x = y ∧ ((∃ i, x = .int i) ∨ (∃ b, x = .bl b) ∨ (∃ z, x = .str z) ∨ x = .non)) ∨
    ∃ (a b : Addr) (xs ys : List V), x = .ref a ∧ y = .ref b ∧ ((H a = some (.tup xs) ∧ H b = some (.tup ys)) ∨ (H a = some (.lst xs) ∧ H b = some (.lst ys))) ∧ xs.length = ys.length ∧ xs.length ≤ 1000 ∧
      ∀ (i : Nat) (u v : V), xs[i]? = some u → ys[i]? = some v → Sm H n u v
theorem Sm.same {H H' : Hp} (s : Same H H') : ∀ {n : Nat} {x y : V}, Sm H n x y → Sm H' n x y
  | 0, _, _, h => h
  | n + 1, x, y, h => by
    rcases h with h | ⟨a, b, xs, ys, e1, e2, e3, e4, e5, e6⟩
    · exact .inl h
    · refine .inr ⟨a, b, xs, ys, e1, e2, ?_, e4, e5, fun i u v hu hv => (e6 i u v hu hv).same s⟩
      rcases e3 with ⟨p, q⟩ | ⟨p, q⟩
      · exact .inl ⟨s _ _ p, s _ _ q⟩
      · exact .inr ⟨s _ _ p, s _ _ q⟩
end
end L2
end
section
/-! dict(l) of a list of pairs. -/
namespace L2
open PySem PySem.Spec PyProof.Rows
set_option maxHeartbeats 4000000
set_option maxRecDepth 100000
set_option Elab.async false
set_option linter.unusedVariables false
section
variable {prog : Program} {w : World} {A : Around} {R : Result → Shared → Prop}
/-- how far the loop has come -/
structure DL (prog : Program) (w : World) (l it d : Addr) (vs : List Value) (kvs : List (Key × Value)) (i : Nat) (h : Heap) : Prop where
  po : h.IsListIter it l i
  ls : h.IsList l vs.toArray
  dt : h.DictOf (mixKind prog w) d (kvs.take i)
  pr : ∀ (j : Nat) (v : Value), vs[j]? = some v → ∃ (p : Addr) (k : Key) (key x : Value), v = Value.ref p ∧ IsTup h p #[key, x] ∧ kvs[j]? = some (k, x) ∧ (mixKind prog w).is k key = true
theorem cls_ne {h : Heap} {a b : Addr} {o o' : Obj} {T U : String} (e : h.get? a = some o) (e' : h.get? b = some o') (c : o.cls = .type T) (c' : o'.cls = .type U) (n : T ≠ U) : a ≠ b := fun z => by
  rw [z, e'] at e
  cases e
  rw [c] at c'
  injection c' with z
  exact n z
theorem DL.ne {l it d : Addr} {vs : List Value} {kvs : List (Key × Value)} {i : Nat} {h : Heap} (D : DL prog w l it d vs kvs i h) : d ≠ it := by
  obtain ⟨o, es, ep, ho, ⟨hc, _⟩, _⟩ := D.dt
  obtain ⟨o', ho', hc', _⟩ := D.po
  exact cls_ne ho ho' hc hc' (by decide)
end
end L2
end
section
namespace L2
open PySem PySem.Spec PyProof.Rows
set_option maxHeartbeats 4000000
set_option maxRecDepth 100000
set_option Elab.async false
set_option linter.unusedVariables false
section
variable {prog : Program} {w : World} {A : Around} {s : Shared} {R : Result → Shared → Prop}
end
section
variable {X : Cx}
end
end L2
end
section
/-! Ball by ball: each to the next box that is empty. -/
namespace BB
/-- the first place from x on that is none of R's -/
def nx : Int → List Int → Int
  | x, [] => x
  | x, q :: R => if q < x then nx x R else if q = x then nx (x + 1) R else x
theorem nx_past {x q : Int} {R : List Int} (h : q < x) : nx x (q :: R) = nx x R := by
  show (if q < x then nx x R else _) = _
  rw [if_pos h]
theorem nx_ge : ∀ (R : List Int) (x : Int), x ≤ nx x R
  | [], x => Int.le_refl x
  | q :: R, x => by
    unfold nx
    split
    · exact nx_ge R x
    · split
      · have := nx_ge R (x + 1); omega
      · exact Int.le_refl x
theorem nx_not : ∀ (R : List Int) (x : Int), R.Pairwise (· < ·) → nx x R ∉ R
  | [], _, _ => by simp
  | q :: R, x, up => by
    obtain ⟨u1, u2⟩ := List.pairwise_cons.mp up
    unfold nx
    split
    · intro z
      rcases List.mem_cons.mp z with z | z
      · have := nx_ge R x; omega
      · exact nx_not R x u2 z
    · split
      · intro z
        rcases List.mem_cons.mp z with z | z
        · have := nx_ge R (x + 1); omega
        · exact nx_not R (x + 1) u2 z
      · intro z
        rcases List.mem_cons.mp z with z | z
        · omega
        · have := u1 x z; omega
theorem nx_mid : ∀ (R : List Int) (x y : Int), x ≤ y → y < nx x R → y ∈ R
  | [], x, y, h1, h2 => by unfold nx at h2; omega
  | q :: R, x, y, h1, h2 => by
    unfold nx at h2
    split at h2
    · exact List.mem_cons_of_mem _ (nx_mid R x y h1 h2)
    · split at h2
      · by_cases e : y = q
        · rw [e]; exact List.mem_cons_self ..
        · exact List.mem_cons_of_mem _ (nx_mid R (x + 1) y (by omega) h2)
      · omega
/-- the first n places from b on that are none of R's -/
def emp : Nat → Int → List Int → List Int
  | 0, _, _ => []
  | n + 1, b, R => nx b R :: emp n (nx b R + 1) R
/-- and the one behind them -/
def gy : Nat → Int → List Int → Int
  | 0, b, R => nx b R
  | n + 1, b, R => gy n (nx b R + 1) R
theorem emp_gy : ∀ (n : Nat) (b : Int) (R : List Int), emp (n + 1) b R = emp n b R ++ [gy n b R]
  | 0, _, _ => rfl
  | n + 1, b, R => by
    show nx b R :: emp (n + 1) (nx b R + 1) R = nx b R :: (emp n (nx b R + 1) R ++ [gy n (nx b R + 1) R])
    rw [emp_gy n]
theorem gy_ge : ∀ (n : Nat) (b : Int) (R : List Int), b ≤ gy n b R
  | 0, b, R => nx_ge R b
  | n + 1, b, R => by
    have := gy_ge n (nx b R + 1) R
    have := nx_ge R b
    show b ≤ gy n (nx b R + 1) R
    omega
theorem gy_not : ∀ (n : Nat) (b : Int) (R : List Int), R.Pairwise (· < ·) → gy n b R ∉ R
  | 0, b, R, up => nx_not R b up
  | n + 1, b, R, up => gy_not n _ R up
theorem emp_lt : ∀ (n : Nat) (b : Int) (R : List Int) (x : Int), x ∈ emp n b R → b ≤ x ∧ x < gy n b R
  | 0, _, _, x, h => by cases h
  | n + 1, b, R, x, h => by
    have g := gy_ge n (nx b R + 1) R
    have e := nx_ge R b
    rcases List.mem_cons.mp (show x ∈ nx b R :: emp n (nx b R + 1) R from h) with rfl | h
    · exact ⟨e, show nx b R < gy n (nx b R + 1) R by omega⟩
    · have := emp_lt n _ R x h
      exact ⟨by omega, this.2⟩
theorem gy_mid : ∀ (n : Nat) (b : Int) (R : List Int) (z : Int), b ≤ z → z < gy n b R → z ∈ R ∨ z ∈ emp n b R
  | 0, b, R, z, h1, h2 => .inl (nx_mid R b z h1 h2)
  | n + 1, b, R, z, h1, h2 => by
    by_cases c : z < nx b R
    · exact .inl (nx_mid R b z h1 c)
    · by_cases d : z = nx b R
      · exact .inr (by rw [d]; exact List.mem_cons_self ..)
      · rcases gy_mid n (nx b R + 1) R z (by omega) h2 with h | h
        · exact .inl h
        · exact .inr (List.mem_cons_of_mem _ h)
theorem emp_past {p : Int} {r : List Int} : ∀ (n : Nat) (z : Int), p < z → emp n z (p :: r) = emp n z r
  | 0, _, _ => rfl
  | n + 1, z, h => by
    show nx z (p :: r) :: emp n (nx z (p :: r) + 1) (p :: r) = nx z r :: emp n (nx z r + 1) r
    rw [nx_past h, emp_past n _ (by have := nx_ge r z; omega)]
theorem emp_on {p : Int} {r : List Int} : ∀ (n : Nat), emp n p (p :: r) = emp n (p + 1) r
  | 0 => rfl
  | n + 1 => by
    have e : nx p (p :: r) = nx (p + 1) r := by
      show (if p < p then nx p r else if p = p then nx (p + 1) r else p) = _
      rw [if_neg (by omega), if_pos rfl]
    show nx p (p :: r) :: emp n (nx p (p :: r) + 1) (p :: r) = nx (p + 1) r :: emp n (nx (p + 1) r + 1) r
    rw [e, emp_past n _ (by have := nx_ge r (p + 1); omega)]
theorem emp_cut {p : Int} {r : List Int} : ∀ (L : Nat) (box : Int), box ≤ p → emp L box (p :: r) = row box (min L (p - box).toNat) ++ emp (L - min L (p - box).toNat) (p + 1) r
  | 0, box, _ => by rw [Nat.zero_min]; rfl
  | L + 1, box, h => by
    by_cases c : box = p
    · subst c
      rw [Int.sub_self, show min (L + 1) (0 : Int).toNat = 0 from Nat.min_zero _, row_zero, List.nil_append, Nat.sub_zero]
      exact emp_on (L + 1)
    · have e : nx box (p :: r) = box := by
        unfold nx
        rw [if_neg (by omega), if_neg (by omega)]
      show nx box (p :: r) :: emp L (nx box (p :: r) + 1) (p :: r) = _
      rw [e, emp_cut L (box + 1) (by omega)]
      have em : min (L + 1) (p - box).toNat = min L (p - (box + 1)).toNat + 1 := by omega
      rw [em, row_succ, show L + 1 - (min L (p - (box + 1)).toNat + 1) = L - min L (p - (box + 1)).toNat by omega]
      rfl
theorem emp_nil : ∀ (L : Nat) (box : Int), emp L box [] = row box L
  | 0, _ => rfl
  | L + 1, box => by
    rw [row_succ]
    show box :: emp L (box + 1) [] = _
    rw [emp_nil L]
theorem mem_row {lo : Int} {n : Nat} {x : Int} (h : x ∈ row lo n) : lo ≤ x ∧ x < lo + (n : Int) := by
  unfold row at h
  obtain ⟨k, hk, rfl⟩ := List.mem_map.mp h
  have := List.mem_range.mp hk
  omega
/-- how the boxes stand while the balls R are still to go -/
structure At (z : Nat) (all R bh ks : List Int) (L : Nat) (box : Int) : Prop where
  eq : bh ++ sp z L box R = step z all
  cnt : bh.length + L + R.length = z
  lo : ∀ x ∈ bh, x < box
  ge : ∀ x ∈ R, box ≤ x
  up : R.Pairwise (· < ·)
  mem : ∀ x, x ∈ ks ↔ x ∈ bh ∨ x ∈ emp L box R ∨ x ∈ R
theorem At.go {z : Nat} {all r bh ks ks' : List Int} {L : Nat} {box p : Int} (h : At z all (p :: r) bh ks L box)
    (hk : ∀ x, x ∈ ks' ↔ (x ∈ ks ∧ x ≠ p) ∨ x = gy (L - min L (p - box).toNat) (p + 1) r) :
    ∃ bh' L', At z all r bh' ks' L' (p + 1) := by
  obtain ⟨u1, u2⟩ := List.pairwise_cons.mp h.up
  have hb := h.ge p (List.mem_cons_self ..)
  have hc := h.cnt
  rw [List.length_cons] at hc
  have lz : L - min L (p - box).toNat < z := by omega
  have e := h.eq
  unfold sp at e
  rw [if_pos lz, ← List.append_assoc] at e
  refine ⟨bh ++ row box (min L (p - box).toNat), L - min L (p - box).toNat + 1, e, ?_, fun x hx => ?_, fun x hx => ?_, u2, fun x => ?_⟩
  · rw [List.length_append, show (row box (min L (p - box).toNat)).length = min L (p - box).toNat by unfold row; rw [List.length_map, List.length_range]]
    omega
  · rcases List.mem_append.mp hx with w | w
    · have := h.lo x w; omega
    · have := mem_row w; omega
  · have := u1 x hx; omega
  · rw [hk x, h.mem x, emp_cut L box hb, emp_gy]
    have np : ∀ w, w ∈ bh ++ row box (min L (p - box).toNat) → w ≠ p := fun w hw => by
      rcases List.mem_append.mp hw with v | v
      · have := h.lo w v; omega
      · have := mem_row v; omega
    have ne : ∀ w, w ∈ emp (L - min L (p - box).toNat) (p + 1) r → w ≠ p := fun w hw => by have := emp_lt _ _ _ _ hw; omega
    have nr : ∀ w, w ∈ r → w ≠ p := fun w hw => by have := u1 w hw; omega
    simp only [List.mem_append, List.mem_cons, List.mem_singleton, List.not_mem_nil, or_false]
    constructor
    · rintro (⟨h1 | (h1 | h1) | h1 | h1, h2⟩ | h1)
      · exact .inl (.inl h1)
      · exact .inl (.inr h1)
      · exact .inr (.inl (.inl h1))
      · exact absurd h1 h2
      · exact .inr (.inr h1)
      · exact .inr (.inl (.inr h1))
    · rintro ((h1 | h1) | (h1 | h1) | h1)
      · exact .inl ⟨.inl h1, np x (List.mem_append_left _ h1)⟩
      · exact .inl ⟨.inr (.inl (.inl h1)), np x (List.mem_append_right _ h1)⟩
      · exact .inl ⟨.inr (.inl (.inr h1)), ne x h1⟩
      · exact .inr h1
      · exact .inl ⟨.inr (.inr (.inr h1)), nr x h1⟩
/-- from the ball's next box on, all is taken up to the one it goes to, and that is free -/
theorem At.here {z : Nat} {all r bh ks : List Int} {L : Nat} {box p : Int} (h : At z all (p :: r) bh ks L box) (x : Int) (hx : p + 1 ≤ x) (hx2 : x ≤ gy (L - min L (p - box).toNat) (p + 1) r) :
    x ∈ ks ↔ x < gy (L - min L (p - box).toNat) (p + 1) r := by
  obtain ⟨u1, u2⟩ := List.pairwise_cons.mp h.up
  have hb := h.ge p (List.mem_cons_self ..)
  rw [h.mem x, emp_cut L box hb]
  simp only [List.mem_append, List.mem_cons]
  constructor
  · rintro (h1 | (h1 | h1) | h1 | h1)
    · have := h.lo x h1; omega
    · have := mem_row h1; omega
    · exact (emp_lt _ _ _ _ h1).2
    · omega
    · by_cases c : x = gy (L - min L (p - box).toNat) (p + 1) r
      · exact absurd (by rw [← c]; exact h1) (gy_not (L - min L (p - box).toNat) (p + 1) r u2)
      · omega
  · intro h1
    rcases gy_mid _ _ _ _ hx h1 with w | w
    · exact .inr (.inr (.inr w))
    · exact .inr (.inl (.inr w))
theorem At.done {z : Nat} {all bh ks : List Int} {L : Nat} {box : Int} (h : At z all [] bh ks L box) (x : Int) : x ∈ ks ↔ x ∈ step z all := by
  rw [h.mem x, ← h.eq, emp_nil]
  show x ∈ bh ∨ x ∈ row box L ∨ x ∈ [] ↔ x ∈ bh ++ row box L
  rw [List.mem_append]
  constructor
  · rintro (h1 | h1 | h1)
    · exact .inl h1
    · exact .inr h1
    · cases h1
  · rintro (h1 | h1)
    · exact .inl h1
    · exact .inr (.inl h1)
theorem At.start {all ks : List Int} (up : all.Pairwise (· < ·)) (hk : ∀ x, x ∈ ks ↔ x ∈ all) : At all.length all all [] ks 0 (all.headD 0) := by
  refine ⟨rfl, by simp, fun x hx => (by cases hx), fun x hx => ?_, up, fun x => ?_⟩
  · cases all with
    | nil => cases hx
    | cons p r =>
      rcases List.mem_cons.mp hx with rfl | hx
      · exact Int.le_refl _
      · exact Int.le_of_lt ((List.pairwise_cons.mp up).1 x hx)
  · rw [hk x]
    show x ∈ all ↔ x ∈ [] ∨ x ∈ [] ∨ x ∈ all
    simp
end BB
end
section
/-! Comprehensions of new tuples; a dict's int keys. -/
namespace L2
open PySem PySem.Spec PyProof.Rows
set_option maxHeartbeats 4000000
set_option Elab.async false
set_option linter.unusedVariables false
structure Nb3 (mg : Str → Option Value) : Prop extends Nb2 mg where
  dict : mg "dict" = none
  sorted : mg "sorted" = none
theorem comp_tups {J : It} {g : TG} {te : TE} {Q : VK} {D : Addr} {H1 : Hp} {σ0 : St} (n : Nat) (hn : n ≤ sizeLine) (f : Nat → List V) (Sg : St → Prop) (itm : Nat → Hp → V → Prop) (hD : H1 D = none) (s0 : Sg σ0)
    (items : ∀ i H, Same H1 H → (i < n → J.go i H ∧ ∀ x H2, J.yld i H x H2 → Same H H2 ∧ itm i H2 x) ∧ (n ≤ i → J.stop i H))
    (step : ∀ i x σ' H, i < n → Same H1 H → itm i H x → Sg σ' → ∀ R : St → V → Hp → Prop, (∀ σ3 p H5, Sg σ3 → Same H H5 → H5 p = some (.tup (f i)) → R σ3 (.ref p) H5) → g x σ' H fun σ3 H3 => te σ3 H3 (R σ3))
    (fin : ∀ H' ys, Same H1 H' → H' D = some (.lst ys) → ys.length = n → (∀ (j : Nat) (y : V), ys[j]? = some y → ∃ p, y = .ref p ∧ H' p = some (.tup (f j))) → Q (.ref D) H') :
    cmpW J g tYes te Q D σ0 H1 := by
  refine ⟨fun i m σ H => m = n - i ∧ i ≤ n ∧ Sg σ ∧ Same H1 H ∧ ∃ ys, H D = some (.lst ys) ∧ ys.length = i ∧ ∀ (j : Nat) (y : V), ys[j]? = some y → ∃ p, y = .ref p ∧ H p = some (.tup (f j)), ⟨n, by omega, Nat.zero_le _, s0, (Same.refl H1).upd_free hD _, [], upd_same, rfl, fun j y h => by cases h⟩, ?_⟩
  rintro i m σ H ⟨rfl, hi, hs, sm, ys, hd, hl, hy⟩
  by_cases hlt : i < n
  · obtain ⟨go, yl⟩ := (items i H sm).1 hlt
    refine .inr ⟨go, fun x H2 y => ?_⟩
    obtain ⟨s2, im⟩ := yl x H2 y
    have key := step i x σ H2 hlt (sm.trans s2) im hs (fun σ3 y H5 => ∃ ys, H5 D = some (.lst ys) ∧ ys.length < sizeLine ∧ ∃ m', m' < n - i ∧ (m' = n - (i + 1) ∧ i + 1 ≤ n ∧ Sg σ3 ∧ Same H1 (upd H5 D (.lst (ys ++ [y]))) ∧ ∃ zs, (upd H5 D (.lst (ys ++ [y]))) D = some (.lst zs) ∧ zs.length = i + 1 ∧ ∀ (j : Nat) (u : V), zs[j]? = some u → ∃ p, u = .ref p ∧ (upd H5 D (.lst (ys ++ [y]))) p = some (.tup (f j)))) fun σ3 p H5 g3 s5 ep => by
      refine ⟨ys, s5 _ _ (s2 _ _ hd), by omega, n - (i + 1), by omega, rfl, by omega, g3, (sm.trans (s2.trans s5)).upd_free hD _, ys ++ [.ref p], upd_same, by rw [List.length_append, List.length_singleton, hl], fun j u hu => ?_⟩
      have dd := s5 _ _ (s2 _ _ hd)
      by_cases c : j < ys.length
      · rw [List.getElem?_append_left c] at hu
        obtain ⟨p', e1, e2⟩ := hy j u hu
        have e3 := s5 _ _ (s2 _ _ e2)
        exact ⟨p', e1, by rw [upd_ne (ne_of e3 dd (by intro z; cases z))]; exact e3⟩
      · have ej : j = i := by
          have := (List.getElem?_eq_some_iff.mp hu).1
          rw [List.length_append, List.length_singleton] at this
          omega
        subst ej
        rw [List.getElem?_append_right (by omega), hl, Nat.sub_self] at hu
        have eu : u = .ref p := by simpa using hu.symm
        exact ⟨p, eu, by rw [upd_ne (ne_of ep dd (by intro z; cases z))]; exact ep⟩
    have e : (fun (σ3 : St) (H3 : Hp) => te σ3 H3 fun y H5 => ∃ ys, H5 D = some (.lst ys) ∧ ys.length < sizeLine ∧ ∃ m', m' < n - i ∧ (m' = n - (i + 1) ∧ i + 1 ≤ n ∧ Sg σ3 ∧ Same H1 (upd H5 D (.lst (ys ++ [y]))) ∧ ∃ zs, (upd H5 D (.lst (ys ++ [y]))) D = some (.lst zs) ∧ zs.length = i + 1 ∧ ∀ (j : Nat) (u : V), zs[j]? = some u → ∃ p, u = .ref p ∧ (upd H5 D (.lst (ys ++ [y]))) p = some (.tup (f j)))) =
        fun (σ3 : St) (H3 : Hp) => tYes σ3 H3 fun ok H4 => if ok = true then te σ3 H4 fun y H5 => ∃ ys, H5 D = some (.lst ys) ∧ ys.length < sizeLine ∧ ∃ m', m' < n - i ∧ (m' = n - (i + 1) ∧ i + 1 ≤ n ∧ Sg σ3 ∧ Same H1 (upd H5 D (.lst (ys ++ [y]))) ∧ ∃ zs, (upd H5 D (.lst (ys ++ [y]))) D = some (.lst zs) ∧ zs.length = i + 1 ∧ ∀ (j : Nat) (u : V), zs[j]? = some u → ∃ p, u = .ref p ∧ (upd H5 D (.lst (ys ++ [y]))) p = some (.tup (f j)))
          else ∃ m', m' < n - i ∧ (m' = n - (i + 1) ∧ i + 1 ≤ n ∧ Sg σ3 ∧ Same H1 H4 ∧ ∃ zs, H4 D = some (.lst zs) ∧ zs.length = i + 1 ∧ ∀ (j : Nat) (u : V), zs[j]? = some u → ∃ p, u = .ref p ∧ H4 p = some (.tup (f j))) := by
      funext σ3 H3
      unfold tYes
      dsimp only
      rw [if_pos rfl]
    rw [← e]
    exact key
  · have e : i = n := by omega
    subst e
    exact .inl ⟨(items i H sm).2 (Nat.le_refl _), fin H ys sm hd hl hy⟩
/-! a dict's int keys -/
end L2
end
section
/-! Lists of ints held side by side, as long as one another. -/
namespace L2
open PySem PySem.Spec PyProof.Rows
set_option maxHeartbeats 4000000
set_option Elab.async false
set_option linter.unusedVariables false
section
variable {X : Cx}
end
end L2
end
section
/-! How many balls a carrier takes. -/
namespace BB
def tkn (z : Nat) : Nat → Int → List Int → Nat
  | _, _, [] => 0
  | L, box, p :: r => if L - min L (p - box).toNat < z then tkn z (L - min L (p - box).toNat + 1) (p + 1) r + 1 else tkn z (L - min L (p - box).toNat) (p + 1) r
theorem less_min (m t : Nat) : m - min m t = m - t := by
  rcases Nat.le_total m t with z | z
  · rw [Nat.min_eq_left z, Nat.sub_self, Nat.sub_eq_zero_of_le z]
  · rw [Nat.min_eq_right z]
theorem tkn_gap {z L : Nat} {lo : Int} {R : List Int} (h : ∀ p ∈ R, lo + 1 ≤ p) : tkn z L lo R = tkn z (L - 1) (lo + 1) R := by
  cases R with
  | nil => rfl
  | cons p r =>
    have hp := h p (List.mem_cons_self ..)
    obtain ⟨n, e⟩ : ∃ n : Nat, p - (lo + 1) = (n : Int) := Int.eq_ofNat_of_zero_le (Int.sub_nonneg_of_le hp)
    have e2 : p - lo = ((n + 1 : Nat) : Int) := by omega
    unfold tkn
    rw [e, e2, Int.toNat_natCast, Int.toNat_natCast, less_min, less_min, Nat.sub_sub, Nat.add_comm 1 n]
theorem tkn_free {z : Nat} {box box' : Int} : ∀ {r : List Int}, tkn z 0 box r = tkn z 0 box' r
  | [] => rfl
  | p :: r => by
    unfold tkn
    rw [Nat.zero_min, Nat.zero_min]
def taken (z : Nat) (r : List Int) : Nat := tkn z 0 (r.headD 0) r
/-- box by box: what lies there, what is carried, what is still to come -/
structure By (z : Nat) (all R fo : List Int) (L t : Nat) (x : Int) : Prop where
  eq : fo ++ sp z L x R = step z all
  tk : t + tkn z L x R = taken z all
  ge : L ≠ 0 → ∀ p ∈ R, x ≤ p
  up : R.Pairwise (· < ·)
  le : L ≤ z
theorem By.start (z : Nat) {all : List Int} (up : all.Pairwise (· < ·)) (x : Int) : By z all all [] 0 0 x :=
  ⟨by rw [List.nil_append]; exact sp_free, by rw [Nat.zero_add]; exact tkn_free, fun h => absurd rfl h, up, Nat.zero_le z⟩
theorem By.take {z : Nat} {all r fo : List Int} {L t : Nat} {x : Int} (h : By z all (x :: r) fo L t x) (hl : L ≠ z) : By z all r fo (L + 1) (t + 1) (x + 1) := by
  obtain ⟨u1, u2⟩ := List.pairwise_cons.mp h.up
  have lz : L < z := by have := h.le; omega
  have e := h.eq
  have k := h.tk
  unfold sp at e
  unfold tkn at k
  have em : min L (x - x).toNat = 0 := by rw [Int.sub_self]; exact Nat.min_zero L
  rw [em, row_zero, List.nil_append, Nat.sub_zero, if_pos lz] at e
  rw [em, Nat.sub_zero, if_pos lz] at k
  exact ⟨e, by omega, fun _ p hp => by have := u1 p hp; omega, u2, lz⟩
theorem By.pass {z : Nat} {all r fo : List Int} {t : Nat} {x : Int} (h : By z all (x :: r) fo z t x) : By z all r (fo ++ [x]) z t (x + 1) := by
  obtain ⟨u1, u2⟩ := List.pairwise_cons.mp h.up
  have e := h.eq
  have k := h.tk
  unfold sp at e
  unfold tkn at k
  have em : min z (x - x).toNat = 0 := by rw [Int.sub_self]; exact Nat.min_zero z
  rw [em, row_zero, List.nil_append, Nat.sub_zero, if_neg (Nat.lt_irrefl z)] at e
  rw [em, Nat.sub_zero, if_neg (Nat.lt_irrefl z)] at k
  exact ⟨by rw [List.append_assoc]; exact e, k, fun _ p hp => by have := u1 p hp; omega, u2, Nat.le_refl z⟩
theorem By.lay {z : Nat} {all R fo : List Int} {L t : Nat} {x : Int} (h : By z all R fo L t x) (hl : 0 < L) (hx : x ∉ R) : By z all R (fo ++ [x]) (L - 1) t (x + 1) := by
  have hg : ∀ p ∈ R, x + 1 ≤ p := fun p hp => by
    have := h.ge (by omega) p hp
    have ne : p ≠ x := fun z => hx (by rw [← z]; exact hp)
    omega
  have e := h.eq
  have k := h.tk
  rw [sp_gap hg, if_pos hl] at e
  rw [tkn_gap hg] at k
  exact ⟨by rw [List.append_assoc]; exact e, k, fun _ => hg, h.up, by have := h.le; omega⟩
theorem By.done {z : Nat} {all fo : List Int} {t : Nat} {x : Int} (h : By z all [] fo 0 t x) : fo = step z all ∧ t = taken z all := by
  have e := h.eq
  have k := h.tk
  constructor
  · rw [← e]
    show fo = fo ++ row x 0
    rw [row_zero, List.append_nil]
  · rw [← k]
    rfl
end BB
end
section
/-! l != []. -/
namespace L2
open PySem PySem.Spec PyProof.Rows
set_option maxHeartbeats 4000000
set_option Elab.async false
set_option linter.unusedVariables false
section
variable {X : Cx}
end
end L2
end
section
/-! f-strings of texts and small ints. -/
namespace L2
open PySem PySem.Spec PyProof.Rows
set_option maxHeartbeats 4000000
set_option Elab.async false
set_option linter.unusedVariables false
abbrev TJ := Str → St → Hp → VK → Prop
def PJ (X : Cx) (es : List Expr) (t : TJ) : Prop :=
  ∀ (out : Str) (pins : List (Addr × Obj)) (s : Shared) (σ : St) (H : Hp) (Q : VK), Inv X pins σ H s → t out σ H Q → wpAny (model X.prog X.w) X.A (joinParts out (evalEach es X.env)) (EP X pins σ Q) X.xe s
section
variable {X : Cx} {e : Expr} {es : List Expr} {te : TE} {t : TJ} {pos : Pos}
def jNil : TJ := fun out _ H Q => out.length ≤ sizeLine ∧ Q (.str out) H
def jStr (y : Str) (t : TJ) : TJ := fun out σ H Q => (out ++ y).length ≤ sizeLine ∧ t (out ++ y) σ H Q
def jInt (te : TE) (t : TJ) : TJ := fun out σ H Q => te σ H fun x H1 => ∃ i : Int, x = .int i ∧ i.natAbs.log2 < 1920 ∧ (out ++ (toString i : Str)).length ≤ sizeLine ∧ t (out ++ (toString i : Str)) σ H1 Q
theorem pj_nil : PJ X [] jNil := by
  intro out pins s σ H Q I h
  obtain ⟨hz, q⟩ := h
  exact joinParts_nil ⟨.str out, H, I.tok _, ⟨_, rfl⟩, q⟩ hz
theorem pj_str {y : Str} {j : Nat} (hr : PJ X es t) : PJ X (.Constant (.str y) j pos :: es) (jStr y t) := by
  intro out pins s σ H Q I h
  obtain ⟨hz, q⟩ := h
  show wpAny _ _ (joinParts out (eval (.Constant (.str y) j pos) X.env :: evalEach es X.env)) _ _ _
  refine joinParts_cons (Calls.Constant_str ?_)
  exact ⟨hz, hr (out ++ y) pins _ σ H Q (I.tok _) q⟩
theorem pj_int (he : PE X e te) (hr : PJ X es t) : PJ X (.FormattedValue e (-1) none pos :: es) (jInt te t) := by
  intro out pins s σ H Q I h
  show wpAny _ _ (joinParts out (eval (.FormattedValue e (-1) none pos) X.env :: evalEach es X.env)) _ _ _
  refine joinParts_cons (FormattedValue_plain (thn (he pins s σ H _ I h) fun u s1 ⟨x, H1, I1, rx, i, ex, hd, hz, q⟩ => ?_))
  subst ex
  obtain ⟨tk, rfl⟩ := int_val rx
  refine formatField_int_small hd ?_
  exact ⟨hz, hr _ pins _ σ H1 Q (I1.tok _) q⟩
def tJoin (t : TJ) : TE := fun σ H Q => t Str.empty σ H Q
theorem pe_fstr {e1 e2 : Expr} (h : PJ X (e1 :: e2 :: es) t) : PE X (.JoinedStr (e1 :: e2 :: es) pos) (tJoin t) := by
  intro pins s σ H Q I hq
  exact JoinedStr_many (h Str.empty pins s σ H Q I hq)
end
end L2
end
section
/-! A comprehension within a comprehension's element: the outer target is a cell. -/
namespace L2
open PySem PySem.Spec PyProof.Rows
set_option maxHeartbeats 4000000
set_option maxRecDepth 100000
set_option Elab.async false
set_option linter.unusedVariables false
abbrev cell0 : Obj := { cls := .type "cell", data := .cell none }
structure Blk1 (t : Str) (sc : Scope) (N0 : List Str) (N : List Str) (nt : Nat) (js : List Nat) (scope : Scope) : Prop where
  kind : scope.kind = .function
  loc : ∀ y ∈ scope.names, y.2 = .local → scope.names.lookup y.1 = some .local
  one : ∀ n cl, cellsFrom n scope.names cl = (t, n) :: cl
  lay : ∀ h, pushCells h scope.names = h.push cell0
  only : ∀ y ∈ scope.names, y.2 = .cell → y.1 = t
  cap : ∀ y ∈ scope.names, y.2 = .free → sc.names.lookup y.1 = some .cell ∨ sc.names.lookup y.1 = some .free
  nf : ∀ y ∈ scope.names, y.2 = .free → y.1 ≠ t
  len : N.length = nt + js.length
  out : N.drop nt = js.map fun j => N0.getD j ""
  js : ∀ j ∈ js, j < N0.length
  fr : ∀ x ∈ N.drop nt, scope.names.lookup x = some .free
  nd : N.Nodup
section
variable {M : Model} {A : Around} {E : Value → Shared → Prop} {s : Shared}
end

section
variable {X : Cx} {pins : List (Addr × Obj)} {σ : St} {H : Hp} {s : Shared} {t : Str} {N : List Str} {nt : Nat} {js : List Nat} {scope : Scope} {cl : List (Str × Addr)} {fp : List Addr}
end
section
variable {X : Cx} {elt iter : Expr} {ifs : List Expr} {scope : Scope} {pos : Pos} {N : List Str} {js : List Nat} {sc : Scope} {N0 : List Str} {wi : TI} {tt : TT} {te : TE} {x : Str} {px : Pos}
end
/-! ### rules with the module's part written out, for use within blocks -/
section
variable {X : Cx} {tg : Expr}
def rLenK (K : PySem.W.Frag) : List V → Hp → VK → Prop := fun xs H Q => ∃ p ys, xs = [.ref p] ∧ (SqL K H p ys ∨ SqT K H p ys) ∧ Q (.int ys.length) H
theorem call_lenK (K : PySem.W.Frag) (h : X.K = K) : CallR X (.builtin "len") (rLenK K) := by subst h; exact call_len_seq
end
end L2
end
section
/-! Peeling: what is taken out, what is left. -/
namespace BB
set_option linter.unusedVariables false
/-- the balls with an empty box right behind them -/
def bare (row : List Int) : List Int := row.filter fun p => decide (p + 1 ∉ row)
end BB
end
section
/-! The blocks of a row. -/
namespace BB
def blk : List Int → List (Int × Int)
  | [] => []
  | p :: r => match blk r with
    | [] => [(p, 1)]
    | (q, n) :: t => if q = p + 1 then (p, n + 1) :: t else (p, 1) :: (q, n) :: t
end BB
end
section
/-! Blocks put farther. -/
namespace BB
end BB
end
section
/-! Balls and their partners. -/
namespace BB
/-- how many are to be laid yet, so many boxes behind b -/
def wlk (row : List Int) (b : Int) : Nat → Int
  | 0 => 1
  | d + 1 => wlk row b d + if b + (d : Int) + 1 ∈ row then 1 else -1
/-- the balls that are held, the last one on top; box is looked at next -/
def Stk (row hs : List Int) (box : Int) : Prop := ∀ (j : Nat) (h : Int), hs[j]? = some h → h < box ∧ wlk row h (box - 1 - h).toNat = (hs.length : Int) - (j : Int) ∧ ∀ e, e ≤ (box - 1 - h).toNat → 0 < wlk row h e
theorem wlk_at {row : List Int} {h box : Int} (l : h < box) : wlk row h (box - h).toNat = wlk row h (box - 1 - h).toNat + if box ∈ row then 1 else -1 := by
  have e : (box - h).toNat = (box - 1 - h).toNat + 1 := by omega
  rw [e, wlk, show h + ((box - 1 - h).toNat : Int) + 1 = box by omega]
theorem Stk.push {row hs : List Int} {p box : Int} (s : Stk row hs box) (hp : p ∈ row) (c : hs = [] ∨ box = p) : Stk row (hs ++ [p]) (p + 1) := fun j g hg => by
  rw [List.length_append, List.length_singleton]
  by_cases jl : j < hs.length
  · rw [List.getElem?_append_left jl] at hg
    have eb : box = p := c.elim (fun z => by rw [z] at jl; simp at jl) id
    subst eb
    obtain ⟨l', w', pos'⟩ := s j g hg
    have ev : wlk row g (box - g).toNat = ((hs.length + 1 : Nat) : Int) - (j : Int) := by
      rw [wlk_at l', w', if_pos hp]
      omega
    refine ⟨by omega, by rw [show (box + 1 - 1 - g) = box - g by omega]; exact ev, fun e he => ?_⟩
    by_cases c : e ≤ (box - 1 - g).toNat
    · exact pos' e c
    · rw [show e = (box - g).toNat by omega, ev]
      omega
  · have jj : j = hs.length := by
      have := (List.getElem?_eq_some_iff.mp hg).1
      rw [List.length_append, List.length_singleton] at this
      omega
    subst jj
    rw [List.getElem?_append_right (Nat.le_refl _), Nat.sub_self] at hg
    cases hg
    refine ⟨by omega, ?_, fun e he => ?_⟩
    · rw [show (p + 1 - 1 - p).toNat = 0 by omega]
      show (1 : Int) = _
      omega
    · rw [show e = 0 by omega]
      show (0 : Int) < 1
      omega
end BB
end
section
/-! Rings: balls and their partners, round. -/
namespace BB
set_option linter.unusedVariables false
end BB
end
section
/-! Rings: a step, and back. -/
namespace BB
set_option linter.unusedVariables false
structure Ring (N : Int) (bs : List Int) : Prop where
  up : bs.Pairwise (· < ·)
  bd : ∀ b ∈ bs, 0 ≤ b ∧ b < N
  few : 2 * (bs.length : Int) < N
def twice (N : Int) (bs : List Int) : List Int := bs ++ bs.map (· + N)
end BB
end
section
/-! Rings: taking out, and rounds. -/
namespace BB
set_option linter.unusedVariables false
section
variable {N : Int} {bs : List Int}
end
/-! ### rounds -/
end BB
end
section
/-! All ways to lay so many balls into so many boxes, in their order. -/
namespace BB
set_option linter.all false
set_option maxRecDepth 100000
/-- the box from which on the next ball may lie -/
def nxt (way : List Int) : Int := way.getLastD (-1) + 1
def wayF (N : Nat) (way : List Int) : List (List Int) := (row (nxt way) (N - (nxt way).toNat)).map fun p => way ++ [p]
def waysL (N : Nat) : Nat → List (List Int)
  | 0 => [[]]
  | k + 1 => (waysL N k).flatMap (wayF N)
structure Way (N k : Nat) (w : List Int) : Prop where
  len : w.length = k
  up : w.Pairwise (· < ·)
  bd : ∀ x ∈ w, 0 ≤ x ∧ x < (N : Int)
theorem nxt_last (w : List Int) (x : Int) : nxt (w ++ [x]) = x + 1 := by unfold nxt; simp
theorem nxt_bd {N k : Nat} {w : List Int} (h : Way N k w) : 0 ≤ nxt w ∧ nxt w ≤ (N : Int) ∧ ∀ x ∈ w, x < nxt w := by
  rcases List.eq_nil_or_concat w with rfl | ⟨l, a, rfl⟩
  · exact ⟨by decide, by show (0 : Int) ≤ _; omega, fun x hx => by cases hx⟩
  · rw [List.concat_eq_append] at h ⊢
    rw [nxt_last]
    have := h.bd a (by simp)
    refine ⟨by omega, by omega, fun x hx => ?_⟩
    rcases List.mem_append.mp hx with z | z
    · have := (List.pairwise_append.mp h.up).2.2 x z a (by simp)
      omega
    · rw [List.mem_singleton] at z
      omega
theorem mem_wayF {N : Nat} {w v : List Int} (h0 : 0 ≤ nxt w) (hN : nxt w ≤ (N : Int)) : v ∈ wayF N w ↔ ∃ p : Int, nxt w ≤ p ∧ p < (N : Int) ∧ v = w ++ [p] := by
  unfold wayF row
  rw [List.mem_map]
  constructor
  · rintro ⟨p, hp, rfl⟩
    obtain ⟨i, hi, rfl⟩ := List.mem_map.mp hp
    rw [List.mem_range] at hi
    exact ⟨_, by omega, by omega, rfl⟩
  · rintro ⟨p, h1, h2, rfl⟩
    exact ⟨p, List.mem_map.mpr ⟨(p - nxt w).toNat, List.mem_range.mpr (by omega), by omega⟩, rfl⟩
theorem mem_ways {N : Nat} : ∀ {k : Nat} {w : List Int}, w ∈ waysL N k ↔ Way N k w
  | 0, w => by
    show w ∈ [[]] ↔ _
    rw [List.mem_singleton]
    constructor
    · rintro rfl
      exact ⟨rfl, List.Pairwise.nil, fun x hx => by cases hx⟩
    · exact fun h => List.length_eq_zero_iff.mp h.len
  | k + 1, w => by
    show w ∈ (waysL N k).flatMap (wayF N) ↔ _
    rw [List.mem_flatMap]
    constructor
    · rintro ⟨v, hv, h⟩
      have hv := mem_ways.mp hv
      obtain ⟨n0, n1, n2⟩ := nxt_bd hv
      obtain ⟨p, p1, p2, rfl⟩ := (mem_wayF n0 n1).mp h
      refine ⟨by simp [hv.len], List.pairwise_append.mpr ⟨hv.up, List.pairwise_singleton .., fun x hx y hy => ?_⟩, fun x hx => ?_⟩
      · rw [List.mem_singleton] at hy
        have := n2 x hx
        omega
      · rcases List.mem_append.mp hx with z | z
        · exact hv.bd x z
        · rw [List.mem_singleton] at z
          omega
    · intro h
      rcases List.eq_nil_or_concat w with rfl | ⟨l, a, rfl⟩
      · exact absurd h.len (by simp)
      · rw [List.concat_eq_append] at h ⊢
        have hl : Way N k l := ⟨by have := h.len; simp at this; exact this, (List.pairwise_append.mp h.up).1, fun x hx => h.bd x (by simp [hx])⟩
        obtain ⟨n0, n1, n2⟩ := nxt_bd hl
        refine ⟨l, mem_ways.mpr hl, (mem_wayF n0 n1).mpr ⟨a, ?_, (h.bd a (by simp)).2, rfl⟩⟩
        rcases List.eq_nil_or_concat l with rfl | ⟨m, b, rfl⟩
        · exact (h.bd a (by simp)).1
        · rw [List.concat_eq_append, nxt_last]
          have := (List.pairwise_append.mp h.up).2.2 b (by simp) a (by simp)
          omega
theorem few_ways : ∀ N, N ≤ 10 → ∀ k, k ≤ 10 → (waysL N k).length ≤ 252 := by decide +kernel
theorem part_ways {N k : Nat} (hN : N ≤ 10) (hk : k + 1 ≤ 10) (i : Nat) : (((waysL N k).take i).flatMap (wayF N)).length ≤ 252 := by
  refine Nat.le_trans (List.Sublist.length_le ?_) (few_ways N hN (k + 1) hk)
  show List.Sublist _ ((waysL N k).flatMap (wayF N))
  conv => rhs; rw [← List.take_append_drop i (waysL N k), List.flatMap_append]
  exact List.sublist_append_left ..
end BB
end
section
/-! The tree of questions of a sort, asked of keys that are all unlike, sorts. -/
namespace L2
open PySem PySem.W PyProof.Rows
set_option maxHeartbeats 4000000
set_option Elab.async false
set_option linter.unusedVariables false
/-- the places, in some order -/
structure Pm (n : Nat) (p : Array Nat) : Prop where
  perm : p.toList.Perm (List.range n)
section
variable {n : Nat} {p : Array Nat}
theorem Pm.size (h : Pm n p) : p.size = n := by
  have := h.perm.length_eq
  rw [List.length_range, Array.length_toList] at this
  exact this
theorem Pm.lt (h : Pm n p) (n0 : 0 < n) (j : Nat) : p.getD j 0 < n := by
  by_cases c : j < p.size
  · have e : p.getD j 0 = p[j] := by simp [Array.getD, c]
    rw [e]
    exact List.mem_range.mp (h.perm.mem_iff.mp (by simp))
  · have e : p.getD j 0 = 0 := by simp [Array.getD, c]
    rw [e]
    exact n0
theorem Pm.inj (h : Pm n p) {i j : Nat} (hi : i < n) (hj : j < n) (e : p.getD i 0 = p.getD j 0) : i = j := by
  have hi' : i < p.size := by rw [h.size]; exact hi
  have hj' : j < p.size := by rw [h.size]; exact hj
  have e1 : p.getD i 0 = p[i] := by simp [Array.getD, hi']
  have e2 : p.getD j 0 = p[j] := by simp [Array.getD, hj']
  have nd : p.toList.Nodup := h.perm.nodup_iff.mpr List.nodup_range
  rw [e1, e2] at e
  have pw := List.pairwise_iff_getElem.mp nd
  rcases Nat.lt_trichotomy i j with c | c | c
  · exact absurd (by rw [Array.getElem_toList, Array.getElem_toList]; exact e) (pw i j _ _ c)
  · exact c
  · exact absurd (by rw [Array.getElem_toList, Array.getElem_toList]; exact e.symm) (pw j i _ _ c)
theorem Pm.of (h : Pm n p) {q : Array Nat} (hq : q.Perm p) : Pm n q := ⟨(Array.perm_iff_toList_perm.mp hq).trans h.perm⟩
end
/-- the first k rise -/
def Up (key : Nat → Int) (p : Array Nat) (k : Nat) : Prop := ∀ j, 1 ≤ j → j < k → key (p.getD (j - 1) 0) < key (p.getD j 0)
theorem Up.lt {key : Nat → Int} {p : Array Nat} {k : Nat} (h : Up key p k) : ∀ (d i : Nat), i + d + 1 < k → key (p.getD i 0) < key (p.getD (i + d + 1) 0)
  | 0, i, hi => h (i + 1) (by omega) hi
  | d + 1, i, hi => Int.lt_trans (Up.lt h d i (by omega)) (h (i + (d + 1) + 1) (by omega) hi)
theorem Up.lt' {key : Nat → Int} {p : Array Nat} {k i j : Nat} (h : Up key p k) (hij : i < j) (hj : j < k) : key (p.getD i 0) < key (p.getD j 0) := by
  have := h.lt (j - i - 1) i (by omega)
  rwa [show i + (j - i - 1) + 1 = j by omega] at this
section
variable {cmp : Nat → Nat → (Bool → Shared → Prop) → Shared → Prop} {key : Nat → Int} {J : Shared → Prop} {n : Nat} {s : Shared}
end
end L2
end
section
/-! An exception in flight, by the layer's own heap: what the library keeps of a base, kept of a base that is chosen for each step: the heap itself without the exception, its traceback and the frames. -/
namespace L2
open PySem PySem.Spec PyProof.Rows
set_option maxHeartbeats 4000000
set_option Elab.async false
set_option linter.unusedVariables false

/-! ### a heap without some of its objects -/
def lessOf : List Addr → Heap → Heap
  | [], h => h
  | a :: S, h => (lessOf S h).update a fun o => { o with data := .freed }
theorem freed_get (h : Heap) (a : Addr) : (h.update a fun o => { o with data := .freed }).get? a = none := by
  obtain ⟨objs, l⟩ := h
  show Heap.get? ⟨objs.modify a _, l⟩ a = none
  unfold Heap.get?
  simp only [Array.getElem?_modify, if_pos]
  cases objs[a]? <;> rfl
theorem less_in : ∀ {S : List Addr} {h : Heap} {b : Addr}, b ∈ S → (lessOf S h).get? b = none
  | a :: S, h, b, hb => by
    by_cases e : a = b
    · subst e; exact freed_get _ _
    · show ((lessOf S h).update a _).get? b = none
      rw [Heap.get?_update_other _ _ e]
      exact less_in ((List.mem_cons.mp hb).resolve_left fun z => e z.symm)
theorem less_out : ∀ {S : List Addr} {h : Heap} {b : Addr}, b ∉ S → (lessOf S h).get? b = h.get? b
  | [], _, _, _ => rfl
  | a :: S, h, b, hb => by
    show ((lessOf S h).update a _).get? b = _
    rw [Heap.get?_update_other _ _ fun z => hb (by rw [z]; exact List.mem_cons_self), less_out fun z => hb (List.mem_cons_of_mem _ z)]
theorem less_some {S : List Addr} {h : Heap} {b : Addr} {o : Obj} (e : (lessOf S h).get? b = some o) : b ∉ S ∧ h.get? b = some o := by
  by_cases hb : b ∈ S
  · rw [less_in hb] at e; cases e
  · exact ⟨hb, (less_out hb).symm.trans e⟩
theorem less_stays (S : List Addr) (h : Heap) : (lessOf S h).StaysIn h := fun _ _ e => (less_some e).2
theorem less_frames {S : List Addr} {h base : Heap} : ∀ {l : List Env}, (∀ b ∈ frs l, b ∈ S) → h.FunFrames base l → h.FunFrames (lessOf S h) l
  | [], _, _ => trivial
  | env :: r, hs, ⟨hk, ⟨L, o, hf, _, ho, hd⟩, hr⟩ => by
    have hm : ∀ b, b = L ∨ b ∈ frs r → b ∈ S := fun b hb => hs b (by unfold frs; rw [List.filterMap_cons, hf]; exact List.mem_cons.mpr hb)
    exact ⟨hk, ⟨L, o, hf, less_in (hm L (.inl rfl)), ho, hd⟩, less_frames (fun b hb => hm b (.inr hb)) hr⟩

/-! ### in flight -/
/-- the exception at e with its traceback at T -/
def Trc (h : Heap) (e T : Addr) (cls : Value) : Prop :=
  ∃ oe vs oT ts a0, h.get? e = some oe ∧ oe.cls = cls ∧ vs[0]? = some a0 ∧ oe.data = .fields vs ∧ vs[1]? = some (.ref T) ∧ T ≠ e ∧ h.get? T = some oT ∧ oT.data = .fields ts ∧ ts[3]? = some .none
/-- behind a call that raised: outer the callers, H and s ahead of the call -/
structure Fly (P : Program) (w : World) (outer : List Env) (H : Hp) (s : Shared) (H' : Hp) (e : Addr) (cls : Value) (s' : Shared) : Prop where
  os : s'.os = s.os
  bare : AllBare s'.gens
  un : Un (frs outer) [] H H' s.heap s'.heap
  hok : HOk P w H' s'.heap
  new : s.heap.get? e = none
  free : H' e = none
  tr : ∃ T, Trc s'.heap e T cls ∧ s.heap.get? T = none ∧ H' T = none
def CXF (P : Program) (w : World) : CXT := fun outer H s E v s' => ∃ e cls H', v = .ref e ∧ Fly P w outer H s H' e cls s' ∧ E cls (some e) H'

section
variable {P : Program} {w : World} {base : Heap} {env : Env} {outer : List Env} {L : Addr}
/-- what leaving a frame has done to a heap: all but S is as it was, of what has no fields at most the slots changed -/
structure Gone (S : List Addr) (h h' : Heap) : Prop where
  keep : ∀ b o, b ∉ S → h.get? b = some o → h'.get? b = some o
  slot : h.UpToSlots h'
theorem Gone.hok {S : List Addr} {H : Hp} {h h' : Heap} (g : Gone S h h') (hS : ∀ b ∈ S, H b = none) (x : HOk P w H h) : HOk P w H h' := fun b u e => by
  have ne : ∀ c u, H c = some u → c ∉ S := fun c u q z => by rw [hS c z] at q; cases q
  refine (x b u e).stay (fun c v hc q => g.keep c v ?_ q) (fun _ q => q) fun _ _ q => q
  rcases hc with rfl | hc
  · exact ne _ _ e
  · exact ne _ _ hc
end
theorem ObjOk.live {P : Program} {w : World} {H : Hp} {h : Heap} {a : Addr} {o : HO} (x : ObjOk P w H h a o) : ∃ u, h.get? a = some u := by
  cases o with
  | lst xs => exact let ⟨_, _, _, _, e⟩ := x; ⟨_, e⟩
  | tup xs => exact let ⟨_, _, _, _, e, _⟩ := x; ⟨_, e⟩
  | dK kvs => exact let ⟨_, _, _, _, _, _, _, e, _⟩ := x; ⟨_, e⟩
  | dT kvs => exact let ⟨_, _, _, _, _, _, _, e, _⟩ := x; ⟨_, e⟩
  | set S n => exact let ⟨_, _, _, _, e, _⟩ := x; ⟨_, e⟩
  | ins C dx fs => exact let ⟨_, _, _, e, _⟩ := x; ⟨_, e⟩
  | own y => exact x
  | xd fs => exact let ⟨_, ⟨_, _, _, e, _⟩, _⟩ := x; ⟨_, e⟩
  | rng lo hi => exact let ⟨_, _, _, e⟩ := x; ⟨_, e⟩
  | frz ob u => exact ⟨_, x.1⟩
  | tbl ps => exact ⟨_, x⟩
  | met f y => exact ⟨_, x⟩
  | ext φ => exact x.2.1
theorem HOk.gone {P : Program} {w : World} {H : Hp} {h : Heap} {a : Addr} (x : HOk P w H h) (e : h.get? a = none) : H a = none := by
  cases q : H a with
  | none => rfl
  | some o =>
    obtain ⟨u, z⟩ := (x a o q).live
    rw [e] at z; cases z

/-! ### out of a def's frame -/
section
variable {X : Cx} {pins : List (Addr × Obj)} {σ : St} {H H' : Hp} {s s' : Shared} {e : Addr} {cls : Value} {Q : Unit → Shared → Prop} {E : Value → Shared → Prop}
/-- a def's body, no comprehension's block -/
structure Own (X : Cx) : Prop where
  stk : X.stack = X.env :: X.outer
  frm : X.env.frame = some X.env.locals
  ex : X.ex = []
theorem Inv.flown (I : Inv X pins σ H s) (F : Fly X.prog X.w X.stack H s H' e cls s') : Inv X pins σ H' s' := by
  obtain ⟨hh, g, d, t, os'⟩ := s'
  obtain rfl : os' = s.os := F.os
  exact I.call (h' := hh) (g' := g) (d' := d) (t' := t) (ch := []) F.un F.hok F.bare fun b z => absurd z (by simp)
/-- behind the frame: of the entry's state -/
theorem Gone.fly {S : List Addr} {h' : Heap} {T : Addr} (O : Own X) (I : Inv X pins σ H' s') (g : Gone S s'.heap h') (sub : ∀ b ∈ S, (X.s₀.heap.get? b = none ∧ H' b = none) ∨ b ∈ frs X.stack)
    (ne : X.s₀.heap.get? e = none) (fe : H' e = none) (tr : Trc h' e T cls) (nT : X.s₀.heap.get? T = none) (fT : H' T = none) : Fly X.prog X.w X.outer X.H₀ X.s₀ H' e cls { s' with heap := h' } := by
  have fr : ∀ b ∈ S, H' b = none := fun b hb => (sub b hb).elim (fun z => z.2) (I.stkFree b)
  have base := O.ex ▸ I.base
  have outS : ∀ b o, X.s₀.heap.get? b = some o → b ∉ X.fs → b ∉ S := fun b o eb nb hb => by
    rcases sub b hb with z | z
    · rw [z.1] at eb; cases eb
    · rcases List.mem_cons.mp (I.stkSub b z) with q | q
      · exact absurd (Nat.lt_of_lt_of_le (Heap.lt_size eb) I.ok.above) (by rw [q]; exact Nat.lt_irrefl _)
      · exact nb q
  have atF : ∀ b o, X.s₀.heap.get? b = some o → X.H₀ b = none → b ∈ X.fs → ∃ sl, h'.get? b = some { o with slots := sl } := fun b o eb n hb => by
    obtain ⟨sl, e1⟩ := base.slot b o eb n hb (by simp)
    obtain ⟨_, o', eo, hd⟩ := I.ok.funs.mem hb
    rw [eb] at eo; cases eo
    obtain ⟨sl', e2⟩ := g.slot b _ e1 hd
    exact ⟨sl', e2⟩
  refine ⟨I.os, I.bare, ⟨fun b o eb n hb _ => g.keep b o (outS b o eb hb) (base.keep b o eb n hb (by simp)), fun b o eb n hb _ => atF b o eb n hb, base.free, fun b o eb _ => ?_, base.tups, base.frzs, base.tbls⟩, g.hok fr I.hok, ne, fe, T, tr, nT, fT⟩
  by_cases hb : b ∈ X.fs
  · obtain ⟨sl, z⟩ := atF b o eb (I.ok.frf b hb) hb
    exact ⟨_, z⟩
  · obtain ⟨o1, e1⟩ := base.there b o eb (by simp)
    exact ⟨o1, g.keep b o1 (outS b o eb hb) e1⟩
/-- frames have no fields -/
theorem not_frame {h h' : Heap} {base : Heap} {l : List Env} {T : Addr} {o : Obj} {ts : Array Value} (hl : h.FunFrames base l) (up : h.UpToSlots h') (e : h'.get? T = some o) (hd : o.data = .fields ts) : T ∉ frs l := fun hb => by
  obtain ⟨_, o', eo, nd⟩ := hl.mem hb
  obtain ⟨sl, e2⟩ := up T o' eo nd
  rw [e] at e2
  cases e2
  exact nd ts hd
/-- an exception of a callee leaves this frame too -/
theorem fly_on (O : Own X) (I : Inv X pins σ H s) (F : Fly X.prog X.w X.stack H s H' e cls s') (q : ∀ h', Fly X.prog X.w X.outer X.H₀ X.s₀ H' e cls { s' with heap := h' } → Q () { s' with heap := h' }) :
    wpAny (model X.prog X.w) X.A (leaving X.env (.ref e)) Q E s' := by
  have J := I.flown F
  obtain ⟨T, ⟨oe, vs, oT, ts, a0, he, hc, h0, hd, h1, ne, hT, hdT, h3⟩, nT, fT⟩ := F.tr
  have old : ∀ b, s.heap.get? b = none → X.s₀.heap.get? b = none := fun b z => by
    cases q : X.s₀.heap.get? b with
    | none => rfl
    | some o =>
      obtain ⟨o', e'⟩ := I.base.there b o q (by rw [O.ex]; simp)
      rw [z] at e'; cases e'
  have frames : s'.heap.FunFrames (lessOf (e :: T :: frs X.stack) s'.heap) X.stack := less_frames (fun b hb => List.mem_cons_of_mem _ (List.mem_cons_of_mem _ hb)) J.stack
  have fl : Heap.FlyingW (lessOf (e :: T :: frs X.stack) s'.heap) (X.env :: X.outer) e cls a0 s'.heap :=
    ⟨less_stays _ _, less_in (by simp), O.stk ▸ frames, oe, vs, T, oT, ts, he, ⟨hc, h0⟩, hd, h1, less_in (by simp), ne, hT, hdT, h3⟩
  refine wpAny_leaves_onW (O.stk ▸ I.ok.frames) O.frm fl fun h' f' up => q h' ?_
  obtain ⟨st, _, _, oe', vs', T', oT', ts', he', ⟨hc', h0'⟩, hd', h1', nb', ne', hT', hdT', h3'⟩ := f'
  have g : Gone (e :: T :: frs X.stack) s'.heap h' := ⟨fun b o hb eb => st b o ((less_out hb).trans eb), up⟩
  have tw : T' = T ∨ s'.heap.get? T' = none := by
    by_cases hm : T' ∈ e :: T :: frs X.stack
    · rcases List.mem_cons.mp hm with z | z
      · exact absurd z ne'
      · rcases List.mem_cons.mp z with z | z
        · exact .inl z
        · exact absurd z (not_frame J.stack up hT' hdT')
    · exact .inr ((less_out hm).symm.trans nb')
  refine g.fly (T := T') O J (fun b hb => ?_) (old e F.new) F.free ⟨oe', vs', oT', ts', a0, he', hc', h0', hd', h1', ne', hT', hdT', h3'⟩ ?_ ?_
  · rcases List.mem_cons.mp hb with z | z
    · exact .inl (z ▸ ⟨old e F.new, F.free⟩)
    · rcases List.mem_cons.mp z with z | z
      · exact .inl (z ▸ ⟨old T nT, fT⟩)
      · exact .inr z
  · rcases tw with z | z
    · exact z ▸ old T nT
    · cases q : X.s₀.heap.get? T' with
      | none => rfl
      | some o =>
        obtain ⟨o', e'⟩ := J.base.there T' o q (by rw [O.ex]; simp)
        rw [z] at e'; cases e'
  · rcases tw with z | z
    · exact z ▸ fT
    · exact J.hok.gone z
/-- an exception that was made here leaves this frame -/
theorem fly_off {args : List Value} {h1 : Heap} (O : Own X) (I : Inv X pins σ H s) (M : Heap.MadeExcOf s.heap h1 e cls args) (q : ∀ h', Fly X.prog X.w X.outer X.H₀ X.s₀ H e cls { s with heap := h' } → Q () { s with heap := h' }) :
    wpAny (model X.prog X.w) X.A (leaving X.env (.ref e)) Q E { s with heap := h1 } := by
  have old : ∀ b, s.heap.get? b = none → X.s₀.heap.get? b = none := fun b z => by
    cases q : X.s₀.heap.get? b with
    | none => rfl
    | some o =>
      obtain ⟨o', e'⟩ := I.base.there b o q (by rw [O.ex]; simp)
      rw [z] at e'; cases e'
  have frames : s.heap.FunFrames (lessOf (frs X.stack) s.heap) X.stack := less_frames (fun b hb => hb) I.stack
  refine wpAny_leaves_madeW (s := { s with heap := h1 }) (h := s.heap) (base := lessOf (frs X.stack) s.heap) (O.stk ▸ I.ok.frames) O.frm (less_stays _ _) (O.stk ▸ frames) M fun h' t f' _ _ up1 => q h' ?_
  obtain ⟨st, nb, _, oe', vs', T', oT', ts', he', ⟨hc', h0'⟩, hd', h1', nb', ne', hT', hdT', h3'⟩ := f'
  have up : s.heap.UpToSlots h' := (Heap.UpToSlots.of_keeps M.keeps).trans up1
  have g : Gone (frs X.stack) s.heap h' := ⟨fun b o hb eb => st b o ((less_out hb).trans eb), up⟩
  have tn : s.heap.get? T' = none := (less_out (not_frame I.stack up hT' hdT')).symm.trans nb'
  exact g.fly (T := T') O I (fun b hb => .inr hb) (old e M.new) (I.hok.gone M.new) ⟨oe', vs', oT', ts', _, he', hc', h0', hd', h1', ne', hT', hdT', h3'⟩ (old T' tn) (I.hok.gone tn)
end
end L2
end
section
/-! raise C(..), C an own class below ValueError; defs that may raise. -/
namespace L2
open PySem PySem.Spec PyProof.Rows
set_option maxHeartbeats 4000000
set_option Elab.async false
set_option linter.unusedVariables false

abbrev mroV : List Value := [.type "ValueError", .type "Exception", .type "BaseException", .type "object"]
/-- an own class below ValueError, behind the top: bm the classes above it -/
structure Exc (K : PySem.W.Frag) (C : Addr) (bm : List Value) : Prop where
  ob : ∃ (nm q : Str) (N : Addr) (bs : List Value) (hdct : Bool) (sn : List Str) (sub : List Value) (ab : Bool) (col : Option Bool) (dd : Option Addr) (k0 k1 k2 k3 k5 : Option Value),
    K.lookup C = some (excClassObj nm q C N bs bm hdct sn sub ab col dd k0 k1 k2 k3 k5 "ValueError.__new__") ∧ PySem.W.nsOkIn K N = true ∧ PySem.W.nsIn K N "__init__" = some none
  tl : PySem.W.tailIn K mroV bm = true
  bb : bm.contains (.type "BaseException") = true
  vb : bm.contains (.type "ValueError") = true

/-! ### contexts of defs that may raise -/
section
variable {P : Program} {w : World} {K : PySem.W.Frag} {mg : Str → Option Value} {base : Heap} {N : List Str} {qual : Str} {scope : Scope} {f : Addr} {cd : Value} {A : Around} {outer : List Env} {s : Shared} {H : Hp} {E : XK}
theorem own_cx {CX : CXT} : Own (cxOf CX P w K mg base N qual scope f cd A outer s H E) := ⟨rfl, rfl, rfl⟩
/-- what a def's body wants of an exception is that it leaves the frame -/
structure Lvs (X : Cx) (E : XK) : Prop where
  own : Own X
  xe : ∀ e s', wpAny (model X.prog X.w) X.A (leaving X.env e) (fun _ s'' => CXF X.prog X.w X.outer X.H₀ X.s₀ E e s'') (fun e' s'' => CXF X.prog X.w X.outer X.H₀ X.s₀ E e' s'') s' → X.xe e s'
theorem lvs_cx : Lvs (cxOf (CXF P w) P w K mg base N qual scope f cd A outer s H E) E := ⟨own_cx, fun _ _ h => h⟩
end
section
variable {X : Cx} {E E' : XK}
theorem Lvs.pass (L : Lvs X E) (imp : ∀ c a H, E' c a H → E c a H) : Passes (CXF X.prog X.w) X E' := by
  intro pins σ H s v s' I h
  obtain ⟨e, cls, H', rfl, F, q⟩ := h
  exact L.xe _ _ (fly_on L.own I F fun h' F' => ⟨e, cls, H', rfl, F', imp _ _ _ q⟩)
def tRaise (E : XK) (C : Addr) (ta : TA) : TS := fun _ σ H => ta σ H fun vs H1 => vs.length ≤ sizeLine ∧ ∀ e, H1 e = none → E (.ref C) (some e) H1
theorem ps_raise {C : Addr} {bm : List Value} {x : Str} {np cpos pos : Pos} {a : Expr} {es : List Expr} {ta : TA} (L : Lvs X E) (hc : X.calm = true) (hg : Gl X x) (hm : X.mg x = some (.ref C)) (ex : Exc X.K C bm) (ha : PA X (a :: es) ta)
    (he : starEach (a :: es) X.env = (false, eval a X.env) :: starEach es X.env := by rfl) (hpl : (backTo cpos (starEach (a :: es) X.env)).any (·.1) = false := by rfl) (hd : (x == ("__debug__" : Str)) = false := by decide) :
    PS X (.Raise (some (.Call (.Name x np) (a :: es) [] cpos)) none pos) (tRaise E C ta) := by
  intro pins s σ H D I h
  obtain ⟨⟨nm, q, N, bs, hdct, sn, sub, ab, col, dd, k0, k1, k2, k3, k5, lk, nok, nin⟩, tl, bb, vb⟩ := ex
  have KB := I.ok.mod.kin
  have ns : X.base.Ns N (X.base.nsMap N) := .of_isNs (PySem.W.isNs_of_in KB nok)
  refine wpAny_Raise_call_subT (nm := nm) (q := q) (N := N) (bs := bs) (bm := bm) (hdct := hdct) (sn := sn) (sub := sub) (ab := ab) (col := col) (dd := dd) (k0 := k0) (k1 := k1) (k2 := k2) (k3 := k3) (k5 := k5) (mN := X.base.nsMap N)
    F.excBase_ValueError bb (I.ok.hd hc) hpl (PySem.W.nsMap_none_of_in KB nok nin) (ld_glob I hg hm ⟨rfl, ?_⟩ hd)
  have go := ha cpos pins s σ H _ I h
  rw [he] at go ⊢
  refine Calls.evalArgs_plain (thn go fun us s1 ⟨vs, H1, I1, r, hz, q1⟩ => ?_)
  refine ⟨rfl, by rw [← r.length]; exact hz, I1.kIn _ _ lk, ns.keeps I1.bk, PySem.W.tail_of_in I1.kIn tl, fun h' e M => L.xe _ _ ?_⟩
  exact fly_off L.own I1 M fun h2 F => ⟨e, .ref C, H1, rfl, F, q1 e (I1.hok.gone M.new)⟩
end
end L2
end
section
/-! An exception that is caught in a def's frame. -/
namespace L2
open PySem PySem.Spec PyProof.Rows
set_option maxHeartbeats 4000000
set_option maxRecDepth 100000
set_option Elab.async false
set_option linter.unusedVariables false
section
variable {X : Cx} {pins : List (Addr × Obj)} {σ : St} {H H' : Hp} {s s' : Shared} {e T : Addr} {cls : Value} {S : List Addr} {h' : Heap}
/-- a heap that differs at most in the exception, its traceback and the frames -/
theorem Gone.on (I : Inv X pins σ H s) (F : Fly X.prog X.w X.stack H s H' e cls s') (g : Gone S s'.heap h') (sub : ∀ b ∈ S, (s.heap.get? b = none ∧ H' b = none) ∨ b ∈ frs X.stack)
    (tr : Trc h' e T cls) (nT : s.heap.get? T = none) (fT : H' T = none) : Fly X.prog X.w X.stack H s H' e cls { s' with heap := h' } := by
  have J := I.flown F
  have fr : ∀ b ∈ S, H' b = none := fun b hb => (sub b hb).elim (fun z => z.2) (J.stkFree b)
  have outS : ∀ b o, s.heap.get? b = some o → b ∉ frs X.stack → b ∉ S := fun b o eb nb hb => by
    rcases sub b hb with z | z
    · rw [z.1] at eb; cases eb
    · exact nb z
  have atF : ∀ b o, s.heap.get? b = some o → H b = none → b ∈ frs X.stack → ∃ sl, h'.get? b = some { o with slots := sl } := fun b o eb n hb => by
    obtain ⟨sl, e1⟩ := F.un.slot b o eb n hb (by simp)
    obtain ⟨_, o', eo, hd⟩ := I.stack.mem hb
    rw [eb] at eo; cases eo
    obtain ⟨sl', e2⟩ := g.slot b _ e1 hd
    exact ⟨sl', e2⟩
  refine ⟨F.os, F.bare, ⟨fun b o eb n hb _ => g.keep b o (outS b o eb hb) (F.un.keep b o eb n hb (by simp)), fun b o eb n hb _ => atF b o eb n hb, F.un.free, fun b o eb _ => ?_, F.un.tups, F.un.frzs, F.un.tbls⟩, g.hok fr F.hok, F.new, F.free, T, tr, nT, fT⟩
  by_cases hb : b ∈ frs X.stack
  · obtain ⟨sl, z⟩ := atF b o eb (I.stkFree b hb) hb
    exact ⟨_, z⟩
  · obtain ⟨o1, e1⟩ := F.un.there b o eb (by simp)
    exact ⟨o1, g.keep b o1 (outS b o eb hb) e1⟩
/-- what is chosen as the base -/
theorem fly_base (I : Inv X pins σ H s) (F : Fly X.prog X.w X.stack H s H' e cls s') : ∃ (T : Addr) (a0 : Value), Heap.FlyingW (lessOf (e :: T :: frs X.stack) s'.heap) X.stack e cls a0 s'.heap ∧
    ∀ h', Heap.FlyingW (lessOf (e :: T :: frs X.stack) s'.heap) X.stack e cls a0 h' → s'.heap.UpToSlots h' → Fly X.prog X.w X.stack H s H' e cls { s' with heap := h' } := by
  have J := I.flown F
  obtain ⟨T, ⟨oe, vs, oT, ts, a0, he, hc, h0, hd, h1, ne, hT, hdT, h3⟩, nT, fT⟩ := F.tr
  refine ⟨T, a0, ⟨less_stays _ _, less_in (by simp), less_frames (fun b hb => List.mem_cons_of_mem _ (List.mem_cons_of_mem _ hb)) J.stack, oe, vs, T, oT, ts, he, ⟨hc, h0⟩, hd, h1, less_in (by simp), ne, hT, hdT, h3⟩, fun h' f' up => ?_⟩
  obtain ⟨st, _, _, oe', vs', T', oT', ts', he', ⟨hc', h0'⟩, hd', h1', nb', ne', hT', hdT', h3'⟩ := f'
  have g : Gone (e :: T :: frs X.stack) s'.heap h' := ⟨fun b o hb eb => st b o ((less_out hb).trans eb), up⟩
  have tw : T' = T ∨ s'.heap.get? T' = none := by
    by_cases hm : T' ∈ e :: T :: frs X.stack
    · rcases List.mem_cons.mp hm with z | z
      · exact absurd z ne'
      · rcases List.mem_cons.mp z with z | z
        · exact .inl z
        · exact absurd z (not_frame J.stack up hT' hdT')
    · exact .inr ((less_out hm).symm.trans nb')
  refine g.on (T := T') I F (fun b hb => ?_) ⟨oe', vs', oT', ts', a0, he', hc', h0', hd', h1', ne', hT', hdT', h3'⟩ ?_ ?_
  · rcases List.mem_cons.mp hb with z | z
    · exact .inl (z ▸ ⟨F.new, F.free⟩)
    · rcases List.mem_cons.mp z with z | z
      · exact .inl (z ▸ ⟨nT, fT⟩)
      · exact .inr z
  · rcases tw with z | z
    · exact z ▸ nT
    · cases q : s.heap.get? T' with
      | none => rfl
      | some o =>
        obtain ⟨o', e'⟩ := F.un.there T' o q (by simp)
        rw [z] at e'; cases e'
  · rcases tw with z | z
    · exact z ▸ fT
    · exact J.hok.gone z
variable {A : Around} {M : Model} {E : Value → Shared → Prop} {Q : Unit → Shared → Prop}
/-- it is seen here -/
theorem fly_seen (O : Own X) (I : Inv X pins σ H s) (F : Fly X.prog X.w X.stack H s H' e cls s') (hA : A.frames = some X.stack)
    (q : ∀ h', Fly X.prog X.w X.stack H s H' e cls { s' with heap := h' } → Q () { s' with heap := h' }) :
    wpAny M A (noteFrame (.ref e) X.env) (fun _ s2 => wpAny M A (setFlight (.ref e) none) Q E s2) E s' := by
  obtain ⟨T, a0, fl, back⟩ := fly_base I F
  rw [O.stk] at fl hA
  refine wpAny_looks_onW hA O.frm fl fun h1 held up1 => wpAny_landsW (s := { s' with heap := h1 }) held fun h2 fl2 up2 => q h2 (back h2 ?_ (up1.trans up2))
  rw [O.stk]
  exact fl2
/-- its flight is over -/
theorem fly_land (I : Inv X pins σ H s) (F : Fly X.prog X.w X.stack H s H' e cls s') (q : ∀ h', Fly X.prog X.w X.stack H s H' e cls { s' with heap := h' } → Q () { s' with heap := h' }) :
    wpAny M A (setFlight (.ref e) none) Q E s' := by
  obtain ⟨T, a0, fl, back⟩ := fly_base I F
  exact lands_againW fl fun h2 fl2 up2 => q h2 (back h2 fl2 up2)
end
end L2
end
section
/-! Own classes held against an exception. -/
namespace L2
open PySem PySem.Spec PyProof.Rows
set_option maxHeartbeats 4000000
set_option maxRecDepth 100000
set_option Elab.async false
set_option linter.unusedVariables false
section
variable {M : Model} {A : Around} {E : Value → Shared → Prop} {h : Heap} {g : Array GenState} {d : Drawn} {t : Nat} {os : OsState} {e C C0 : Addr} {oe : Obj} {Q : Bool → Shared → Prop}
variable {nm q : Str} {N : Addr} {bs bm : List Value} {hdct : Bool} {sn : List Str} {sub : List Value} {ab : Bool} {col : Option Bool} {dd : Option Addr} {k0 k1 k2 k3 k5 : Option Value} {ni : String}
variable {nm' q' : Str} {N' : Addr} {bs' bm' : List Value} {hdct' : Bool} {sn' : List Str} {sub' : List Value} {ab' : Bool} {col' : Option Bool} {dd' : Option Addr} {k0' k1' k2' k3' k5' : Option Value} {ni' : String}
theorem match_own (hC : h.get? C = some (excClassObj nm q C N bs bm hdct sn sub ab col dd k0 k1 k2 k3 k5 ni)) (h0 : h.get? C0 = some (excClassObj nm' q' C0 N' bs' bm' hdct' sn' sub' ab' col' dd' k0' k1' k2' k3' k5' ni'))
    (hb : bm'.contains (.type "BaseException") = true) (he : h.get? e = some oe) (hcls : oe.cls = .ref C) (hin : (Value.ref C :: bm).contains (.ref C0) = true) (hq : Q true ⟨h, g, d, t, os⟩) :
    wpAny M A (excMatches (.ref e) (.ref C0)) Q E ⟨h, g, d, t, os⟩ := by
  have hB : (Value.ref C0 :: bm').contains (.type "BaseException") = true := by rw [List.contains_cons, hb, Bool.or_true]
  have f := tc_notTuple
  obtain ⟨c, dc, dt, sl⟩ := oe
  simp only at hcls
  subst hcls
  have s0 : ∀ {Q : Bool → Shared → Prop} {E : Value → Shared → Prop}, Q true ⟨h, g, d, t, os⟩ → wpAny M A (isSubtype (.ref C0) (.type "BaseException")) Q E ⟨h, g, d, t, os⟩ := fun z => wpAny_isSubtype_exc h0 (by rw [hB]; exact z)
  have s1 : ∀ {Q : Bool → Shared → Prop} {E : Value → Shared → Prop}, Q true ⟨h, g, d, t, os⟩ → wpAny M A (isSubtype (.ref C) (.ref C0)) Q E ⟨h, g, d, t, os⟩ := fun z => wpAny_isSubtype_exc hC (by rw [hin]; exact z)
  wp_walk using s0, s1
  exact hq
end
section
variable {prog : Program} {w : World} {A : Around} {E : Value → Shared → Prop} {K : PySem.W.Frag} {h : Heap} {g : Array GenState} {d : Drawn} {t : Nat} {os : OsState} {e C : Addr} {dc : Option Addr} {vs : Array Value} {sl : Array (Option Value)}
/-- the attribute `__class__` of an exception -/
theorem exc_class {Q : Option Value → Shared → Prop} (X : K.In h) (he : h.get? e = some ⟨.ref C, dc, .fields vs, sl⟩)
    (l1 : PySem.W.findIn K (.ref C) "__getattribute__" = some (some (.builtin "BaseException.__getattribute__"))) (l2 : PySem.W.findIn K (.ref C) "__class__" = some (some (.builtin "object.__class__")))
    (l3 : PySem.W.findIn K (.ref C) "__getattr__" = some none) (l4 : PySem.W.subIn K (.ref C) (.type "BaseException") = some true) (l5 : PySem.W.subIn K (.ref C) (.type "object") = some true)
    (q : Q (some (.ref C)) ⟨h, g, d, t + 1, os⟩) : wpAny (model prog w) A (getAttr? (.ref e) "__class__") Q E ⟨h, g, d, t, os⟩ := by
  have L1 : ∀ {A} {Q : Option Value → Shared → Prop} {E : Value → Shared → Prop} {t}, Q (some (.builtin "BaseException.__getattribute__")) ⟨h, g, d, t, os⟩ → wpAny (model prog w) A (typeLookup (.ref C) "__getattribute__") Q E ⟨h, g, d, t, os⟩ := fun z => (PySem.W.looks_findIn X l1).at z
  have L2 : ∀ {A} {Q : Option Value → Shared → Prop} {E : Value → Shared → Prop} {t}, Q (some (.builtin "object.__class__")) ⟨h, g, d, t, os⟩ → wpAny (model prog w) A (typeLookup (Obj.mk (.ref C) dc (.fields vs) sl).cls "__class__") Q E ⟨h, g, d, t, os⟩ := fun z => (PySem.W.looks_findIn X l2).at z
  have L3 : ∀ {A} {Q : Option Value → Shared → Prop} {E : Value → Shared → Prop} {t}, Q none ⟨h, g, d, t, os⟩ → wpAny (model prog w) A (typeLookup (Obj.mk (.ref C) dc (.fields vs) sl).cls "__getattr__") Q E ⟨h, g, d, t, os⟩ := fun z => (PySem.W.looks_findIn X l3).at z
  have bnd := F.attr_ValueError.ga.bind (.ref e)
  have L4 : ∀ {A} {Q : Bool → Shared → Prop} {E : Value → Shared → Prop} {t}, Q true ⟨h, g, d, t, os⟩ → wpAny (model prog w) A (isSubtype (Obj.mk (.ref C) dc (.fields vs) sl).cls (.type "BaseException")) Q E ⟨h, g, d, t, os⟩ := fun z => (PySem.W.looks_subIn X l4).at z
  wp_walk using L1, L3
  refine codeAny_call_builtin F.attr_ValueError.ga.plain F.entry_bexc_ga ?_
  have ar := F.args_bexc_ga (.ref e) (.str (Str.ofString "__class__") t)
  unfold checkBuiltinCall
  rw [show builtinKind "BaseException.__getattribute__" = some .slot by decide +kernel, show splitId "BaseException.__getattribute__" = some ("BaseException", "__getattribute__") by decide +kernel]
  have f5 := F.typeOf_object_class
  have f6 := F.slot_gs_get.lookup
  have f7 := F.slot_gs_set.lookup
  have f8 := F.owner_object_class
  have L5 : ∀ {A} {Q : Bool → Shared → Prop} {E : Value → Shared → Prop} {t}, Q true ⟨h, g, d, t, os⟩ → wpAny (model prog w) A (isSubtype (Obj.mk (.ref C) dc (.fields vs) sl).cls (.type (".".intercalate ("object.__class__".cutAt '.').dropLast))) Q E ⟨h, g, d, t, os⟩ := fun z => by
    rw [f8]; exact (PySem.W.looks_subIn X l5).at z
  wp_walk using L4, L2
  refine codeAny_call_builtin F.slot_gs_get.plain F.entry_gs_get ?_
  refine F.slot_gs_get.check _ _ _ _ _ _ _ _ f5 (F.args_gs_get _ _ _) ?_
  wp_walk using L5
  refine ⟨Code.quiet_builtin _ (by decide +kernel), ?_⟩
  refine codeAny_builtin F.entry_object_class ?_
  wp_walk
  exact q
end
end L2
end
section
/-! isinstance of an exception; try .. except C as e. -/
namespace L2
open PySem PySem.Spec PyProof.Rows
set_option maxHeartbeats 4000000
set_option maxRecDepth 100000
set_option Elab.async false
set_option linter.unusedVariables false
/-- what the tables tell of an own class below ValueError -/
structure ExcF (K : PySem.W.Frag) (C : Addr) (bm : List Value) : Prop extends Exc K C bm where
  l1 : PySem.W.findIn K (.ref C) "__getattribute__" = some (some (.builtin "BaseException.__getattribute__"))
  l2 : PySem.W.findIn K (.ref C) "__class__" = some (some (.builtin "object.__class__"))
  l3 : PySem.W.findIn K (.ref C) "__getattr__" = some none
  l4 : PySem.W.subIn K (.ref C) (.type "BaseException") = some true
  l5 : PySem.W.subIn K (.ref C) (.type "object") = some true
/-- an exception of class C lies there -/
def IsExc (e C : Addr) (h : Heap) : Prop := ∃ dc vs sl, h.get? e = some ⟨.ref C, dc, .fields vs, sl⟩
abbrev ExcO (e C : Addr) : HO := .ext (IsExc e C)
theorem excO_ok {P : Program} {w : World} {H : Hp} {h : Heap} {e C : Addr} (x : IsExc e C h) : ObjOk P w H h e (ExcO e C) := by
  refine ⟨x, ?_, fun h1 h2 ⟨dc, vs, sl, z⟩ k => ⟨dc, vs, sl, k _ z⟩⟩
  obtain ⟨dc, vs, sl, z⟩ := x
  exact ⟨_, z⟩
theorem kitx_exc {K : PySem.W.Frag} {e C : Addr} {bm : List Value} (F : ExcF K C bm) : PySem.W.KitX K (.ref e) (.ref C) (IsExc e C) := by
  obtain ⟨⟨⟨nm, q, N, bs, hdct, sn, sub, ab, col, dd, k0, k1, k2, k3, k5, lk, _, _⟩, _, _, _⟩, l1, l2, l3, l4, l5⟩ := F
  refine ⟨fun M h X ⟨dc, vs, sl, z⟩ A Q E s k hq => ?_, fun M h X _ A Q E s k hq => ?_, fun h tp dd' its n sl X htp => ?_, fun {prog w A E Q s} X ⟨dc, vs, sl, z⟩ hq => ?_⟩
  · obtain ⟨hp, g, d, t, os⟩ := s
    have z' := k _ _ z
    wp_walk
    exact hq
  · obtain ⟨hp, g, d, t, os⟩ := s
    have z' := k _ _ (X _ _ lk)
    wp_walk
    exact hq
  · refine Bool.eq_false_iff.mpr fun w => ?_
    have e : C = tp := Value.ref.inj (beq_iff_eq.mp w)
    subst e
    have z := congrArg Obj.cls (Option.some.inj ((X _ _ lk).symm.trans htp))
    exact absurd (show Value.type "type" = Value.type "tuple" from z) (by decide)
  · obtain ⟨hp, g, d, t, os⟩ := s
    exact exc_class X z l1 l2 l3 l4 l5 hq
section
variable {X : Cx}
theorem call_isiE : CallR X (.builtin "isinstance") (fun xs H Q => ∃ e C bm y b, xs = [.ref e, y] ∧ H e = some (ExcO e C) ∧ ExcF X.K C bm ∧ ((∃ C0, y = .ref C0 ∧ PySem.W.kitOne X.K (.ref C) (.ref C0) = some b) ∨ ∃ T, y = .ty T ∧ PySem.W.kitOne X.K (.ref C) (.type T) = some b) ∧ Q (.bl b) H) := by
  intro pins s σ H xs us Q I r h
  obtain ⟨e, C, bm, y, b, rfl, he, F, hy, q⟩ := h
  obtain ⟨u, c, rfl, rx, rc⟩ := vals2 r
  cases (show u = Value.ref e from rx)
  have ie : IsExc e C s.heap := (show ObjOk X.prog X.w H s.heap e (ExcO e C) from I.hok e _ he).1
  rcases hy with ⟨C0, rfl, k⟩ | ⟨T, rfl, k⟩
  · cases (show c = Value.ref C0 from rc)
    exact PySem.W.kia_one (kitx_exc F) I.kIn ie k (fun z => nomatch z) fun tk => ⟨.bl b, H, I.tok tk, rfl, q⟩
  · cases (show c = Value.type T from rc)
    exact PySem.W.kia_one (kitx_exc F) I.kIn ie k (fun z => nomatch z) fun tk => ⟨.bl b, H, I.tok tk, rfl, q⟩
end
end L2
end
section
/-! try: .. except C as e: .. -/
namespace L2
open PySem PySem.Spec PyProof.Rows
set_option maxHeartbeats 4000000
set_option maxRecDepth 100000
set_option Elab.async false
set_option linter.unusedVariables false
theorem ns_one {h : Heap} {a : Addr} {m m2 : Str → Option Value} {x : Str} (p : h.Ns a m) (q : h.Ns a m2) : m x = m2 x := by
  obtain ⟨o, es, ep, ho, hd, _, hf⟩ := p
  obtain ⟨o', es', ep', ho', hd', _, hf'⟩ := q
  rw [ho] at ho'; cases ho'
  rw [hd] at hd'; cases hd'
  rw [← hf, ← hf']
/-- within an except suite -/
abbrev Cx.held (X : Cx) (A : Around) (E : Value → Shared → Prop) : Cx := { X with A := A, calm := false, xe := E }
section
variable {X : Cx} {pins : List (Addr × Obj)} {σ : St} {H H' : Hp} {s s' : Shared} {e C : Addr} {cls : Value} {A : Around} {E : Value → Shared → Prop}
theorem Inv.held (I : Inv X pins σ H s) (hA : A.frames = some X.stack) : Inv (X.held A E) pins σ H s :=
  ⟨⟨I.ok.mod, I.ok.kind, I.ok.glob, I.ok.blt, I.ok.above, I.ok.inj, I.ok.has, I.ok.cab, fun z => absurd z Bool.false_ne_true, hA, I.ok.stk, I.ok.exf, I.ok.bs, I.ok.bsz, I.ok.noex, I.ok.exfs, I.ok.funs, I.ok.frf⟩,
    I.os, I.bare, I.base, I.loc, I.cell, I.free, I.freeC, I.pin, I.hok, I.len⟩
theorem Inv.unheld (I : Inv (X.held A E) pins σ H s) (ok : X.Ok) : Inv X pins σ H s := ⟨ok, I.os, I.bare, I.base, I.loc, I.cell, I.free, I.freeC, I.pin, I.hok, I.len⟩
/-- the exception that was caught is known from now on -/
theorem Inv.caught (O : Own X) (I : Inv X pins σ H s) (F : Fly X.prog X.w X.stack H s H' e (.ref C) s') : Inv X pins σ (upd H' e (ExcO e C)) s' := by
  have J := I.flown F
  obtain ⟨T, ⟨oe, vs, oT, ts, a0, he, hc, h0, hd, h1, ne, hT, hdT, h3⟩, nT, fT⟩ := F.tr
  obtain ⟨c, dc, dt, sl⟩ := oe
  simp only at hc hd
  subst hc hd
  have live : ∀ b o, s.heap.get? b = some o → b ≠ e := fun b o z q => by rw [q, F.new] at z; cases z
  have old : ∀ b o, X.s₀.heap.get? b = some o → b ≠ e := fun b o z => by
    obtain ⟨o', z'⟩ := I.base.there b o z (by rw [O.ex]; simp)
    exact live b o' z'
  have trk : ∀ b o, H' b = some o → b ≠ e := fun b o z q => by rw [q, F.free] at z; cases z
  refine ⟨J.ok, J.os, J.bare, ⟨J.base.keep, J.base.slot, fun b o z n hx => ?_, J.base.there, fun b xs z => ?_, fun b o u z => ?_, fun b ps z => ?_⟩, J.loc, J.cell, ?_, fun x c z => ?_, fun p hp => ?_, fun b u z => ?_, J.len⟩
  · rw [upd_ne (old b o z)]; exact J.base.free b o z n hx
  · have q := J.base.tups b xs z
    rw [upd_ne (trk b _ q)]; exact q
  · have q := J.base.frzs b o u z
    rw [upd_ne (trk b _ q)]; exact q
  · obtain ⟨more, q⟩ := J.base.tbls b ps z
    exact ⟨more, by rw [upd_ne (trk b _ q)]; exact q⟩
  · obtain ⟨m, ⟨o, _, _, ho, _⟩, _⟩ := I.loc
    rw [upd_ne (live _ o ho)]; exact J.free
  · obtain ⟨v, o, ho, _⟩ := I.cell x c z
    rw [upd_ne (live _ o ho)]; exact J.freeC x c z
  · obtain ⟨z, n, r⟩ := J.pin p hp
    obtain ⟨z1, _⟩ := I.pin p hp
    exact ⟨z, by rw [upd_ne (live _ _ z1)]; exact n, r⟩
  · by_cases q : b = e
    · subst q
      rw [upd_same] at z
      cases z
      exact excO_ok ⟨_, _, _, he⟩
    · rw [upd_ne q] at z
      refine (J.hok b u z).stay (fun _ _ _ z => z) (fun c z => ?_) fun c xs z => ?_
      · rw [upd_ne (trk c _ z)]; exact z
      · rw [upd_ne (trk c _ z)]; exact z
/-- a name goes out of the frame -/
theorem Inv.gone {k : Nat} {n : Str} {h' : Heap} {m : Str → Option Value} {v : Option Value} {t' : Nat} (I : Inv X pins σ H s) (nd : X.N.Nodup) (hk : X.N[k]? = some n) (hm : s.heap.Ns X.env.locals m)
    (hn : h'.Ns X.env.locals fun y => if y = n then v else m y) (sb : Heap.SameBut X.env.locals s.heap h') : Inv X pins (σ.set k none) H { s with heap := h', toks := t' } := by
  have kp : ∀ b o, b ≠ X.env.locals → s.heap.get? b = some o → h'.get? b = some o := fun b o hb z => sb.extBut b o hb z
  have old : ∀ b o, X.s₀.heap.get? b = some o → b ≠ X.env.locals := fun b o z => Nat.ne_of_lt (Nat.lt_of_lt_of_le (Heap.lt_size z) I.ok.above)
  have trk : ∀ b u, H b = some u → b ≠ X.env.locals := fun b u z q => by rw [q, I.free] at z; cases z
  have there : ∀ b o, s.heap.get? b = some o → ∃ o', h'.get? b = some o' := fun b o z => by
    by_cases q : b = X.env.locals
    · obtain ⟨o', _, _, ho', _⟩ := hn
      exact ⟨o', q ▸ ho'⟩
    · exact ⟨o, kp b o q z⟩
  refine ⟨I.ok, I.os, I.bare, ⟨fun b o z n hb hx => kp b o (old b o z) (I.base.keep b o z n hb hx), fun b o z n hb hx => ?_, I.base.free, fun b o z hx => ?_, I.base.tups, I.base.frzs, I.base.tbls⟩, ⟨_, hn, fun i x v' h1 h2 h3 => ?_⟩, fun x c z => ?_, I.free, I.freeC, fun p hp => ?_, fun b u z => ?_, ?_⟩
  · obtain ⟨sl, e1⟩ := I.base.slot b o z n hb hx
    exact ⟨sl, kp b _ (old b o z) e1⟩
  · obtain ⟨o', e1⟩ := I.base.there b o z hx
    exact there b o' e1
  · have ik : i ≠ k := fun q => by
      rw [q, List.getElem?_set_self'] at h2
      cases z : σ[k]? with
      | none => rw [z] at h2; cases h2
      | some _ => rw [z] at h2; cases h2
    rw [List.getElem?_set_ne (Ne.symm ik)] at h2
    have xn : x ≠ n := fun q => ik (nodup_ix nd (q ▸ h1) hk)
    obtain ⟨m2, hm2, hl⟩ := I.loc
    obtain ⟨u, ru, lk⟩ := hl i x v' h1 h2 h3
    refine ⟨u, ru, ?_⟩
    rcases lk with ⟨a, b⟩ | ⟨a, c, b, o, ho, hd⟩
    · refine .inl ⟨a, ?_⟩
      show (if x = n then v else m x) = some u
      rw [if_neg xn, ns_one hm hm2]
      exact b
    · exact .inr ⟨a, c, b, o, kp c o (I.cne x c b) ho, hd⟩
  · obtain ⟨v, o, ho, hd⟩ := I.cell x c z
    exact ⟨v, o, kp c o (I.cne x c z) ho, hd⟩
  · obtain ⟨z, n, ne, r⟩ := I.pin p hp
    exact ⟨kp _ _ ne z, n, ne, r⟩
  · refine (I.hok b u z).stay (fun c w hc q => kp c w ?_ q) (fun _ q => q) fun _ _ q => q
    rcases hc with q | q
    · exact q ▸ trk b u z
    · exact trk c _ q
  · rw [List.length_set]; exact I.len
end
/-- a suite that may raise: how it ends, and how an exception leaves it -/
abbrev TB := St → Hp → (Hp → Prop) → XK → Prop
def PB (X : Cx) (body : List Stmt) (tb : TB) : Prop := ∀ (pins : List (Addr × Obj)) (s : Shared) (σ : St) (H : Hp) (Q : Hp → Prop) (E : XK), Inv X pins σ H s → tb σ H Q E →
  wpAny (model X.prog X.w) X.A (execs body X.env) (fun f s1 => f = .next ∧ ∃ H1, Inv X pins σ H1 s1 ∧ Q H1) (fun v s1 => CXF X.prog X.w X.stack H s E v s1) s
def tTry (K : PySem.W.Frag) (C0 : Addr) (k : Nat) (tb : TB) (ts : TS) : TS := fun D σ H => tb σ H (fun H1 => D.nx σ H1) fun c ea H1 => ∃ C bm e, c = .ref C ∧ ea = some e ∧ ExcF K C bm ∧ (Value.ref C :: bm).contains (.ref C0) = true ∧
  ts { nx := fun σ' H' => D.nx (σ'.set k none) H', rt := fun _ _ => False } (σ.set k (some (.ref e))) (upd H1 e (ExcO e C))
section
variable {X : Cx} {body suite : List Stmt} {b₀ : Stmt} {tb : TB} {ts : TS} {x n : Str} {np hp pos : Pos} {C0 : Addr} {bm0 : List Value} {k : Nat}
theorem ps_try (O : Own X) (nd : X.N.Nodup) (hk : X.N[k]? = some n) (hkl : X.env.scope.names.lookup n = some .local) (hg : Gl X x) (hm : X.mg x = some (.ref C0)) (e0 : Exc X.K C0 bm0)
    (hb : PB X body tb) (hs : ∀ A E, PSs (X.held A E) (b₀ :: suite) ts) (hd : (x == ("__debug__" : Str)) = false := by decide) :
    PS X (.Try body [.ExceptHandler (some (.Name x np)) (some n) (b₀ :: suite) hp] [] [] pos) (tTry X.K C0 k tb ts) := by
  intro pins s σ H D I h
  refine wpAny_Try_except (wpAny_mono (hb pins s σ H _ _ I h) (fun f s1 ⟨ef, H1, I1, q1⟩ => ?_) fun v s1 hv => ?_)
  · subst ef
    exact wpAny_pure ⟨σ, H1, I1, q1⟩
  · obtain ⟨e, cls, H1, rfl, F, C, bm, e', rfl, ee, ex, hin, q⟩ := hv
    cases ee
    refine fly_seen O I F I.ok.frames fun h1 F1 => ?_
    have hA : (X.A.mark (some (.ref e))).frames = some X.stack := I.ok.frames
    have J1 := I.flown F1
    refine wpAny_handleBy_cons (codeAny_handlers_test (Calls.Name_function_global I.ok.kind hg (Calls.loadGlobal_global (by rw [I.ok.glob]; exact J1.mod.glob.keeps J1.bk) hm ?_) hd)) (by intro z; cases z)
    obtain ⟨⟨nm, q', N, bs, hdct, sn, sub, ab, col, dd, k0, k1, k2, k3, k5, lk, _, _⟩, _, _, _⟩ := ex.toExc
    obtain ⟨⟨nm', q'', N', bs', hdct', sn', sub', ab', col', dd', k0', k1', k2', k3', k5', lk', _, _⟩, _, bb', _⟩ := e0
    obtain ⟨T, ⟨oe, vs, oT, tts, a0, he, hcl, _⟩, _, _⟩ := F1.tr
    refine match_own (J1.kIn _ _ lk) (J1.kIn _ _ lk') bb' he hcl hin ?_
    refine codeAny_handlers_suite_as (fly_land I F1 fun h2 F2 => ?_)
    have J2 := I.caught O F2
    refine store_ok2 J2 nd hk (.inl hkl) (v := .ref e) rfl (fun s3 I3 _ => ?_) (.inr hkl)
    refine wpAny_mono (hs (X.A.mark (some (.ref e))) (fun _ _ => False) pins s3 _ _ _ (I3.held hA) q) (fun f s4 h4 => ?_) fun _ _ z => False.elim z
    cases f with
    | next =>
      obtain ⟨σ', H4, I4, q4⟩ := h4
      have I5 := I4.unheld I.ok
      obtain ⟨m, hm4, _⟩ := id I5.loc
      exact wpAny_nameGoes_keeps hkl hm4 (by rw [I.ok.kind]; rfl) fun h' v hn sb => ⟨_, _, I5.gone nd hk hm4 hn sb, q4⟩
    | brk => exact (let ⟨_, _, _, z⟩ := h4; False.elim z)
    | cont => exact (let ⟨_, _, _, z⟩ := h4; False.elim z)
    | ret u => exact (let ⟨_, _, _, _, _, z⟩ := h4; False.elim z)
end
end L2
end
section
/-! Things that lie fixed; a thing that runs when called; `call()` as the body of a try. -/
namespace L2
open PySem PySem.Spec PyProof.Rows
set_option maxHeartbeats 4000000
set_option maxRecDepth 100000
set_option Elab.async false
set_option linter.unusedVariables false
/-- the object o at a, for good -/
def Fz (a : Addr) (o : Obj) : HO := .frz o (.ext fun h => h.get? a = some o)
theorem fz_ok {P : Program} {w : World} {H : Hp} {h : Heap} {a : Addr} {o : Obj} (e : h.get? a = some o) : ObjOk P w H h a (Fz a o) := ⟨e, e, ⟨_, e⟩, fun _ _ q k => k _ q⟩
theorem fz_get {P : Program} {w : World} {H : Hp} {h : Heap} {a : Addr} {o : Obj} (x : HOk P w H h) (e : H a = some (Fz a o)) : h.get? a = some o := (x a _ e).1
/-- called without arguments, the function at f runs so, in every state that has H over base -/
def Runs (P : Program) (w : World) (K : PySem.W.Frag) (mg : Str → Option Value) (base : Heap) (k : Nat) (f : Addr) (H : Hp) (Q : VK) (E : XK) : Prop :=
  ∀ (A : Around) (outer : List Env) (s : Shared), Room k A → Env0 P w K mg base A outer s H → codeAny (model P w) A (.call (.ref f) ⟨[], []⟩) (CR (CXF P w) outer P w H s Q E) s
def tbCall (X : Cx) (k i : Nat) : TB := fun σ H Q E => ∃ f o fd, σ[i]? = some (some (.ref f)) ∧ H f = some (Fz f o) ∧ o.data = .func fd ∧ Runs X.prog X.w X.K X.mg X.base k f H (fun _ H1 => Q H1) E
theorem keeps_F {M : Model} {f : Addr} {o : Obj} {fd : FuncData} (hd : o.data = .func fd) (h : Heap) (e : h.get? f = some o) : ∃ k, (k = Keeper.frame ∨ k = Keeper.machine ∨ k = Keeper.boundFrame) ∧ PySem.W.Looks M h (keeperOf (.ref f)) k := by
  obtain ⟨c, dc, dt, sl⟩ := o
  simp only at hd
  subst hd
  exact ⟨.frame, .inl rfl, (PySem.W.Looks.ld (part := none) e).andThen .now⟩
theorem pb_call {X : Cx} {k i : Nat} {x : Str} {p cpos pos : Pos} (hr : Room k X.A) (hN : X.N[i]? = some x) (hv : X.env.scope.names.lookup x = some .local) (hd : (x == ("__debug__" : Str)) = false := by decide)
    (hs : swapsWith (.Call (.Name x p) [] [] cpos) none pos.line X.env = pure false := by rfl) : PB X [.Expr (.Call (.Name x p) [] [] cpos) pos] (tbCall X k i) := by
  intro pins s σ H Q E I h
  obtain ⟨f, o, fd, e1, e2, e3, run⟩ := h
  obtain ⟨m, hn, hl⟩ := id I.loc
  obtain ⟨u, r, l⟩ := hl i x _ hN e1 (.inl hv)
  obtain rfl : u = .ref f := r
  have hm : m x = some (.ref f) := by
    rcases l with ⟨_, z⟩ | ⟨z, _⟩
    · exact z
    · have z : X.env.scope.names.lookup x = some .cell ∨ X.env.scope.names.lookup x = some .free := z
      rw [hv] at z
      rcases z with z | z <;> cases z
  refine wpAny_execs_cons (wpAny_Expr_any (wpAny_Call_Name_kw (wpAny_Name (wpAny_loadName_local I.ok.kind hv hn hm ?_) hd)) I.quiet hs)
  refine PySem.W.callWith_of (P := fun h => h.get? f = some o) rfl (keeps_F e3) (PyProof.Rows.evalArgs_nil3 ⟨fz_get I.hok e2, ?_⟩)
  refine wpAny_call (codeAny_mono (run X.A X.stack s hr I.env0) fun rs s' hq => ?_)
  cases rs with
  | error e => exact hq
  | ok fl =>
    cases fl with
    | ret u =>
      obtain ⟨v, H1, I1, _, q⟩ := I.after hq
      exact wpAny_execs_nil ⟨rfl, H1, I1, q⟩
    | next => exact False.elim hq
    | brk => exact False.elim hq
    | cont => exact False.elim hq
end L2
end
section
/-! A lambda without parameters runs. -/
namespace L2
open PySem PySem.Spec PyProof.Rows
set_option maxHeartbeats 4000000
set_option maxRecDepth 100000
set_option Elab.async false
set_option linter.unusedVariables false
/-- the body's context -/
def lamCx (P : Program) (w : World) (K : PySem.W.Frag) (mg : Str → Option Value) (base : Heap) (N : List Str) (qual : Str) (scope : Scope) (cl : List (Str × Addr)) (f : Addr) (cd : Value) (A : Around) (outer : List Env) (s : Shared) (H : Hp) (E : XK) : Cx where
  prog := P
  w := w
  K := K
  mg := mg
  base := base
  A := A.deeper (PySem.W.envX qual scope s.heap.objs.size f cd cl)
  N := N
  s₀ := s
  H₀ := H
  env := PySem.W.envX qual scope s.heap.objs.size f cd cl
  outer := outer
  stack := PySem.W.envX qual scope s.heap.objs.size f cd cl :: outer
  ex := []
  calm := true
  fn := fun _ => false
  pn := []
  xe := fun e s' => wpAny (model P w) (A.deeper (PySem.W.envX qual scope s.heap.objs.size f cd cl)) (leaving (PySem.W.envX qual scope s.heap.objs.size f cd cl) e) (fun _ s'' => CXF P w outer H s E e s'') (fun e' s'' => CXF P w outer H s E e' s'') s'
/-- the cells that it holds, over base: the names N with the values σ -/
structure Cap (base : Heap) (scope : Scope) (cl : List (Str × Addr)) (N : List Str) (σ : St) : Prop where
  inj : ∀ x y c, cl.lookup x = some c → cl.lookup y = some c → x = y
  has : ∀ x, scope.names.lookup x = some .free → ∃ c, cl.lookup x = some c
  cell : ∀ x c, cl.lookup x = some c → ∃ v, base.IsCell c v
  val : ∀ (i : Nat) (x : Str) (v : V), N[i]? = some x → σ[i]? = some (some v) → scope.names.lookup x = some .free ∧ ∃ u c, RelV v u ∧ cl.lookup x = some c ∧ base.IsCell c (some u)
  len : σ.length = N.length
structure LamS (scope : Scope) : Prop where
  kind : scope.kind = .function
  co : scope.isCoroutine = false
  gen : scope.isGenerator = false
  nocell : ∀ y ∈ scope.names, y.2 ≠ .cell
section
variable {P : Program} {w : World} {K : PySem.W.Frag} {mg : Str → Option Value} {base : Heap} {N : List Str} {qual : Str} {scope : Scope} {cl : List (Str × Addr)} {f : Addr} {cd : Value} {A : Around} {outer : List Env} {s : Shared} {H : Hp} {E : XK} {σ : St}
theorem own_lam : Own (lamCx P w K mg base N qual scope cl f cd A outer s H E) := ⟨rfl, rfl, rfl⟩
theorem lvs_lam : Lvs (lamCx P w K mg base N qual scope cl f cd A outer s H E) E := ⟨own_lam, fun _ _ h => h⟩
theorem lam_start {h1 : Heap} {tk : Nat} (S : LamS scope) (C : Cap base scope cl N σ) (hd : A.handled = none) (e0 : Env0 P w K mg base A outer s H) (kp : ∀ b o, s.heap.get? b = some o → h1.get? b = some o) (hn : h1.Ns s.heap.objs.size fun _ => none) :
    Inv (lamCx P w K mg base N qual scope cl f cd A outer s H E) [] σ H { s with heap := h1, toks := tk } := by
  have noA : ∀ b : Addr, b ∉ (lamCx P w K mg base N qual scope cl f cd A outer s H E).ex := fun b z => absurd (show b ∈ ([] : List Addr) from z) (by simp)
  have bc : ∀ {c : Addr} {v : Option Value}, base.IsCell c v → h1.IsCell c v ∧ H c = none := fun {c v} ⟨o, ho, hd⟩ => ⟨⟨o, kp _ _ (e0.bs c o ho).1, hd⟩, (e0.bs c o ho).2⟩
  refine ⟨⟨e0.mod, S.kind, rfl, rfl, Nat.le_refl _, C.inj, fun y hy => ?_, fun y c z _ => absurd z Bool.false_ne_true, fun _ => hd, Around.frames_deeper e0.frames, .inr ⟨rfl, rfl⟩, fun b z => absurd z (noA b), e0.bs, e0.bsz, fun b _ _ => noA b, fun b z => absurd z (noA b), e0.funs, e0.frf⟩,
    rfl, e0.bare, Un.kept kp, ⟨_, hn, fun i y v h1 h2 h3 => ?_⟩, fun y c h => ?_, e0.hok.fresh (Nat.le_refl _), fun y c h => ?_, fun p hp => absurd (show p ∈ ([] : List (Addr × Obj)) from hp) (by simp), e0.hok.kept kp, C.len⟩
  · have hy : scope.names.lookup y = some .cell ∨ scope.names.lookup y = some .free := hy
    rcases hy with hy | hy
    · exact absurd rfl (S.nocell _ (PySem.mem_of_lookup hy))
    · exact C.has y hy
  · obtain ⟨fr, u, c, rv, hc, hcell⟩ := C.val i y v h1 h2
    exact ⟨u, rv, .inr ⟨.inr fr, c, hc, (bc hcell).1⟩⟩
  · obtain ⟨v, hv⟩ := C.cell y c h
    exact ⟨v, (bc hv).1⟩
  · obtain ⟨v, hv⟩ := C.cell y c h
    exact (bc hv).2
theorem runs_lam {k : Nat} {name : Str} {params : Arguments} {body : Expr} {pm ctv : Value} {c' : Addr} {oc : Obj} {vs : Array Value} {t : Nat} {te : TE} {Q : VK} (hf : H f = some (Fz f (PySem.W.kla_obj name qual params body scope cl pm c' ctv))) (hc : H c' = some (Fz c' oc))
    (hv : oc.data = .fields vs) (hq : vs[1]? = some (.str qual t)) (S : LamS scope) (C : Cap base scope cl N σ)
    (hb : bindArgs (PySem.W.kla_fn name qual params body scope cl pm (.ref c') ctv) ⟨[], []⟩ = pure [])
    (hbody : ∀ A outer s, Room k (A.deeper (PySem.W.envX qual scope s.heap.objs.size f (.ref c') cl)) → PE (lamCx P w K mg base N qual scope cl f (.ref c') A outer s H E) body te) (q : te σ H Q) : Runs P w K mg base (k + 1) f H Q E := by
  intro A outer s hr e0
  refine PySem.W.kla_callFunE hr.depth (fz_get e0.hok hf) rfl S.co S.gen rfl ⟨c', oc, vs, t, rfl, fz_get e0.hok hc, hv, hq⟩ ?_
  rw [hb]
  refine wpAny_pure (wpAny_newFunctionEnv S.nocell (by intro y hy; simp at hy) (fun h1 hns hsb => ?_) S.kind)
  have kp : ∀ b o, s.heap.get? b = some o → h1.get? b = some o := fun b o e => hsb.extBut b o (Nat.ne_of_lt (Heap.lt_size e)) (Heap.get?_push_of_some _ e)
  refine ⟨(e0.mod.nolimit.keeps fun b o e => (e0.bs b o e).1).keeps kp, ?_⟩
  show codeAny _ _ (.expr body (PySem.W.envX qual scope s.heap.objs.size f (.ref c') cl)) _ _
  have I := lam_start (P := P) (w := w) (K := K) (mg := mg) (N := N) (qual := qual) (f := f) (cd := .ref c') (E := E) (tk := s.toks + ([] : List (Str × Value)).length) S C hr.hd e0 kp hns
  refine PySem.W.kla_codeExpr (wpAny_mono (hbody A outer s (hr.deeper _) [] _ σ H Q I q) (fun v s' ⟨x, H1, I1, r, q1⟩ => ?_) fun e s' hs => hs)
  exact ⟨x, H1, I1.os, I1.bare, I1.base, I1.hok, r, q1⟩
end
end L2
end
section
/-! A lambda is made and handed on. -/
namespace L2
open PySem PySem.Spec PyProof.Rows
set_option maxHeartbeats 4000000
set_option maxRecDepth 100000
set_option Elab.async false
set_option linter.unusedVariables false
theorem triples_ok : ∀ l : List (Pos × Addr), TriplesOk (triples l)
  | [] => trivial
  | (_, _) :: r => triples_ok r
theorem among_some {pos : Pos} : ∀ {l : List (Pos × Addr)} {cv : Value}, codeAmong pos (triples l) = some cv → ∃ x ∈ l, cv = .ref x.2
  | [], _, h => by cases h
  | (p, c) :: r, cv, h => by
    simp only [triples, rawInt, codeAmong] at h
    split at h
    · cases h
      exact ⟨_, List.mem_cons_self, rfl⟩
    · obtain ⟨x, hx, e⟩ := among_some h
      exact ⟨x, List.mem_cons_of_mem _ hx, e⟩
/-- the table at T: each code object in it is known, by the name q -/
def Tab (q : Str) (H : Hp) (T : Addr) : Prop := ∃ l : List (Pos × Addr), H T = some (.tbl (triples l).toArray) ∧ ∀ x ∈ l, ∃ oc vs t, H x.2 = some (Fz x.2 oc) ∧ oc.data = .fields vs ∧ vs[1]? = some (.str q t)
theorem Tab.same {q : Str} {H H' : Hp} {T : Addr} (x : Tab q H T) (s : Same H H') : Tab q H' T :=
  let ⟨l, e, h⟩ := x
  ⟨l, s _ _ e, fun y hy => let ⟨oc, vs, t, a, b⟩ := h y hy; ⟨oc, vs, t, s _ _ a, b⟩⟩
theorem Tab.empty {q : Str} {H : Hp} {T : Addr} (e : H T = some (.tbl #[])) : Tab q H T := ⟨[], e, fun _ h => nomatch h⟩
abbrev lamQ (X : Cx) : Str := X.env.qual ++ "<lambda>"
structure LamAt (X : Cx) (T : Addr) (params : Arguments) (body : Expr) (scope : Scope) (H : Hp) (f : Addr) (H' : Hp) : Prop where
  new : H f = none
  grow : ∀ b u, b ≠ T → H b = some u → H' b = some u
  tab : Tab (lamQ X) H' T
  ob : ∃ cl pm c' ctv oc vs t, H' f = some (Fz f (PySem.W.kla_obj "<lambda>" (lamQ X) params body scope cl pm c' ctv)) ∧ H' c' = some (Fz c' oc) ∧ oc.data = .fields vs ∧ vs[1]? = some (.str (lamQ X) t) ∧
    (∀ x c, cl.lookup x = some c → X.env.cells.lookup x = some c) ∧ ∀ x, (x, NameKind.free) ∈ scope.names → ∃ c, cl.lookup x = some c
def tLam (X : Cx) (T : Addr) (params : Arguments) (body : Expr) (scope : Scope) : TE := fun σ H Q => Tab (lamQ X) H T ∧ ∀ f H', LamAt X T params body scope H f H' → Q (.ref f) H'
/-- the module of the built-ins, as the globals know it -/
def BltAt (mg : Str → Option Value) (base : Heap) : Prop := ∃ bm o, mg "__builtins__" = some (.ref bm) ∧ bm ≠ builtinsNs ∧ bm ≠ mainGlobals ∧ base.get? bm = some o ∧ o.cls = .type "module" ∧ o.dict = some builtinsNs ∧ o.data = .plain
section
variable {X : Cx} {T c : Addr} {params : Arguments} {body : Expr} {scope : Scope} {pos : Pos}
theorem pe_lam (hcode : X.env.code = .ref c) (C : PySem.W.CodeHd X.base c T) (B : BltAt X.mg X.base) (hcap : ∀ y ∈ scope.names, y.2 = .free → X.env.scope.names.lookup y.1 = some .cell ∨ X.env.scope.names.lookup y.1 = some .free)
    (hdef : defaultsOf params X.env = ([], []) := by rfl) : PE X (.Lambda params body scope pos) (tLam X T params body scope) := by
  intro pins s σ H Q I ⟨⟨l, hT, hl⟩, h⟩
  obtain ⟨cl, hcl, c1, c2⟩ := clos_of (env := X.env) (scope := scope) fun y hy hk => I.ok.has y.1 (hcap y hy hk)
  obtain ⟨bm, ob, b1, b2, b3, b4, b5⟩ := B
  have notT : ∀ {b : Addr} {o : Obj}, X.base.get? b = some o → b ≠ T := fun {b o} e z => by
    have := (I.bs b o e).2
    rw [z, hT] at this; cases this
  have hgT : mainGlobals ≠ T := by
    obtain ⟨o, _, _, ho, _⟩ := I.ok.mod.glob
    exact notT ho
  have bl : s.heap.BuiltinsAt X.mg T := ⟨bm, ob, b1, b2, b3, notT b4, I.bk _ _ b4, b5⟩
  have hP : s.heap.get? T = some (PySem.W.tabObj (triples l).toArray) := I.hok T _ hT
  have glob := I.ok.mod.glob.keeps I.bk
  refine PySem.W.kla_eval hdef ?_
  cases am : codeAmong pos (triples l) with
  | some cv =>
    obtain ⟨x, hx, rfl⟩ := among_some am
    obtain ⟨oc, vs, t, o1, o2, o3⟩ := hl x hx
    refine PySem.W.kla_makeFunctionHit hcl I.ok.glob glob hcode (C.keeps I.bk) hP (by simpa using triples_ok l) (by simpa using am) bl fun ctv h' tk kp hs => ?_
    have fresh : H h'.objs.size = none := I.hok.fresh hs
    have J := I.laid (h' := h'.push (PySem.W.kla_obj "<lambda>" (lamQ X) params body scope cl ((X.mg "__name__").getD .none) x.2 ctv)) (t' := tk) (a := h'.objs.size) (o := Fz h'.objs.size (PySem.W.kla_obj "<lambda>" (lamQ X) params body scope cl ((X.mg "__name__").getD .none) x.2 ctv))
      (fun b u e => Heap.get?_push_of_some _ (kp b u e)) hs (fz_ok (Heap.get?_push_size _ rfl))
    have same : Same H (upd H h'.objs.size (Fz h'.objs.size (PySem.W.kla_obj "<lambda>" (lamQ X) params body scope cl ((X.mg "__name__").getD .none) x.2 ctv))) := fun b u e => by
      rw [upd_ne fun z => by rw [z, fresh] at e; cases e]; exact e
    exact ⟨.ref h'.objs.size, _, J, rfl, h _ _ ⟨fresh, fun b u _ e => same b u e, Tab.same ⟨l, hT, hl⟩ same, cl, _, x.2, ctv, oc, vs, t, upd_same, same _ _ o1, o2, o3, c1, c2⟩⟩
  | none =>
    refine PySem.W.kla_makeFunction hcl I.ok.glob glob hcode (C.keeps I.bk) hP (by simpa using triples_ok l) (by simpa using am) hgT bl fun c' ctv h' tk hx hge hlt hrec htb => ?_
    obtain ⟨_, oc, vs, t, e2, hoc, hd, hv⟩ := hrec
    cases e2
    obtain ⟨fo, hfo⟩ : ∃ fo, fo = PySem.W.kla_obj "<lambda>" (lamQ X) params body scope cl ((X.mg "__name__").getD .none) c' ctv := ⟨_, rfl⟩
    have eT : (triples l).toArray ++ #[rawInt pos.line, rawInt pos.col, .ref c'] = (triples (l ++ [(pos, c')])).toArray := by rw [triples_append]; simp
    rw [eT] at htb
    have lv : ∀ b u, H b = some u → b < s.heap.objs.size := fun b u e => (I.hok b u e).lt
    have hTs : T < s.heap.objs.size := lv _ _ hT
    have cT : c' ≠ T := Nat.ne_of_gt (Nat.lt_of_lt_of_le hTs hge)
    have hsf : s.heap.objs.size ≤ h'.objs.size := Nat.le_trans hge (Nat.le_of_lt hlt)
    have fT : h'.objs.size ≠ T := Nat.ne_of_gt (Nat.lt_of_lt_of_le hTs hsf)
    have cf : c' ≠ h'.objs.size := Nat.ne_of_lt hlt
    obtain ⟨H', hH'⟩ : ∃ H', H' = upd (upd (upd H T (.tbl (triples (l ++ [(pos, c')])).toArray)) c' (Fz c' oc)) h'.objs.size (Fz h'.objs.size fo) := ⟨_, rfl⟩
    have aF : H' h'.objs.size = some (Fz h'.objs.size fo) := by rw [hH', upd_same]
    have aC : H' c' = some (Fz c' oc) := by rw [hH', upd_ne cf, upd_same]
    have aT : H' T = some (.tbl (triples (l ++ [(pos, c')])).toArray) := by rw [hH', upd_ne fT.symm, upd_ne cT.symm, upd_same]
    have aO : ∀ b, b < s.heap.objs.size → b ≠ T → H' b = H b := fun b hb n => by rw [hH', upd_ne (Nat.ne_of_lt (Nat.lt_of_lt_of_le hb hsf)), upd_ne (Nat.ne_of_lt (Nat.lt_of_lt_of_le hb hge)), upd_ne n]
    have grow : ∀ b u, b ≠ T → H b = some u → H' b = some u := fun b u n e => (aO b (lv b u e) n).trans e
    have old : ∀ b o, b ≠ T → s.heap.get? b = some o → (h'.push fo).get? b = some o := fun b o n e => Heap.get?_push_of_some _ (hx b o n e)
    have un : ∀ fs, Un fs [] H H' s.heap (h'.push fo) := fun fs => by
      have nT : ∀ {b : Addr}, H b = none → b ≠ T := fun {b} n z => by rw [z, hT] at n; cases n
      refine ⟨fun b o e n _ _ => old b o (nT n) e, fun b o e n _ _ => ⟨o.slots, old b o (nT n) e⟩, fun b o e n _ => (aO b (Heap.lt_size e) (nT n)).trans n, fun b o e _ => ?_, fun b xs e => ?_, fun b o u e => ?_, fun b ps e => ?_⟩
      · by_cases z : b = T
        · exact ⟨_, z ▸ Heap.get?_push_of_some _ htb⟩
        · exact ⟨_, old b o z e⟩
      · exact grow b _ (fun z => by rw [z, hT] at e; cases e) e
      · exact grow b _ (fun z => by rw [z, hT] at e; cases e) e
      · by_cases z : b = T
        · subst z
          rw [hT] at e
          cases e
          exact ⟨#[rawInt pos.line, rawInt pos.col, .ref c'], by rw [aT, eT]⟩
        · exact ⟨#[], by rw [grow b _ z e]; simp⟩
    have hok : HOk X.prog X.w H' (h'.push fo) := fun b u e => by
      by_cases z1 : b = h'.objs.size
      · subst z1
        rw [aF] at e
        cases e
        exact fz_ok (Heap.get?_push_size _ (by rw [hfo]; rfl))
      · by_cases z2 : b = c'
        · subst z2
          rw [aC] at e
          cases e
          exact fz_ok (Heap.get?_push_of_some _ hoc)
        · by_cases z3 : b = T
          · subst z3
            rw [aT] at e
            cases e
            exact Heap.get?_push_of_some _ htb
          · rw [hH', upd_ne z1, upd_ne z2, upd_ne z3] at e
            refine (I.hok b u e).stay (fun d v hd q => old d v ?_ q) (fun d z => grow d _ (fun q => by rw [q, hT] at z; cases z) z) fun d xs z => grow d _ (fun q => by rw [q, hT] at z; cases z) z
            rcases hd with q | q
            · rw [q]; exact z3
            · intro y
              rw [y, hT] at q; cases q
    have J : Inv X pins σ H' { s with heap := h'.push fo, toks := tk } := I.un (un _) hok
    have tab : Tab (lamQ X) H' T := ⟨_, aT, fun x hx => by
      rcases List.mem_append.mp hx with hx | hx
      · obtain ⟨oc2, vs2, t2, o1, o2⟩ := hl x hx
        exact ⟨oc2, vs2, t2, grow _ _ (fun q => by rw [q, hT] at o1; cases o1) o1, o2⟩
      · obtain rfl : x = (pos, c') := by simpa using hx
        exact ⟨oc, vs, t, aC, hd, hv⟩⟩
    rw [← hfo]
    exact ⟨.ref h'.objs.size, H', J, rfl, h _ _ ⟨I.hok.fresh hsf, grow, tab, cl, _, c', ctv, oc, vs, t, by rw [aF, hfo], aC, hd, hv, c1, c2⟩⟩
end
end L2
end
section
/-! f(lambda: ..), f one that calls what it is given: over a greater base, in which the cells lie. -/
namespace L2
open PySem PySem.Spec PyProof.Rows
set_option maxHeartbeats 4000000
set_option maxRecDepth 100000
set_option Elab.async false
set_option linter.unusedVariables false
theorem less_size : ∀ (S : List Addr) (h : Heap), (lessOf S h).objs.size = h.objs.size
  | [], _ => rfl
  | a :: S, h => by
    show ((lessOf S h).update a _).objs.size = _
    rw [Heap.size_update, less_size S h]
open Classical in
noncomputable def outOf (base : Heap) (cl : List (Str × Addr)) (h : Heap) : List Addr := (List.range h.objs.size).filter fun a => decide (base.get? a = none ∧ ∀ x, cl.lookup x ≠ some a)
noncomputable def baseOf (base : Heap) (cl : List (Str × Addr)) (h : Heap) : Heap := lessOf (outOf base cl h) h
section
variable {base h : Heap} {cl : List (Str × Addr)} {b : Addr} {o : Obj}
theorem base_out (hb : base.get? b = none) (hc : ∀ x, cl.lookup x ≠ some b) (hs : b < h.objs.size) : b ∈ outOf base cl h :=
  List.mem_filter.mpr ⟨List.mem_range.mpr hs, by simpa using ⟨hb, hc⟩⟩
theorem base_some (e : (baseOf base cl h).get? b = some o) : h.get? b = some o ∧ ((∃ u, base.get? b = some u) ∨ ∃ x, cl.lookup x = some b) := by
  obtain ⟨n, e⟩ := less_some e
  refine ⟨e, ?_⟩
  cases q : base.get? b with
  | some u => exact .inl ⟨u, rfl⟩
  | none =>
    refine .inr ?_
    apply Classical.byContradiction
    intro z
    exact n (base_out q (fun x y => z ⟨x, y⟩) (Heap.lt_size e))
theorem base_in (e : h.get? b = some o) (hi : (∃ u, base.get? b = some u) ∨ ∃ x, cl.lookup x = some b) : (baseOf base cl h).get? b = some o := by
  unfold baseOf
  rw [less_out]
  · exact e
  · intro z
    have z := (List.mem_filter.mp z).2
    have z : base.get? b = none ∧ ∀ x, cl.lookup x ≠ some b := by simpa using z
    rcases hi with ⟨u, q⟩ | ⟨x, q⟩
    · rw [z.1] at q; cases q
    · exact z.2 x q
end
section
variable {X : Cx} {pins : List (Addr × Obj)} {σ : St} {H : Hp} {s : Shared} {cl : List (Str × Addr)} {N : List Str} {js : List Nat} {scope : Scope}
theorem Inv.env1 (I : Inv X pins σ H s) (hfn : ∀ x, X.fn x = true) (c1 : ∀ x c, cl.lookup x = some c → X.env.cells.lookup x = some c) : Env0 X.prog X.w X.K X.mg (baseOf X.base cl s.heap) X.A X.stack s H := by
  have sub : ∀ b o, X.base.get? b = some o → (baseOf X.base cl s.heap).get? b = some o := fun b o e => base_in (I.bk b o e) (.inl ⟨o, e⟩)
  obtain ⟨mb, m1, m2⟩ := I.ok.mod.blt
  refine ⟨I.ok.frames, ⟨I.ok.mod.kin.keeps sub, I.ok.mod.glob.keeps sub, ⟨mb, m1.keeps sub, m2⟩, I.ok.mod.nolimit.keeps sub⟩, fun b o e => ?_, by unfold baseOf; rw [less_size]; exact Nat.le_refl _, ?_, I.stkFree, I.hok, I.bare⟩
  · obtain ⟨e1, z⟩ := base_some e
    refine ⟨e1, ?_⟩
    rcases z with ⟨u, q⟩ | ⟨x, q⟩
    · exact (I.bs b u q).2
    · exact I.freeC x b (c1 x b q)
  · refine less_frames (fun b hb => ?_) I.stack
    obtain ⟨hn, o, ho, _⟩ := I.stack.mem hb
    refine base_out hn (fun x q => ?_) (Heap.lt_size ho)
    rcases List.mem_cons.mp (I.stkSub b hb) with e | e
    · exact I.cne x b (c1 x b q) e
    · obtain ⟨_, o', ho', _⟩ := I.ok.funs.mem e
      exact absurd (Nat.lt_of_lt_of_le (Heap.lt_size ho') (I.ok.cab x b (hfn x) (c1 x b q))) (Nat.lt_irrefl _)
theorem Inv.cap (I : Inv X pins σ H s) (B : Blk X.env.scope X.N N 0 js scope) (c1 : ∀ x c, cl.lookup x = some c → X.env.cells.lookup x = some c) (c2 : ∀ x, (x, NameKind.free) ∈ scope.names → ∃ c, cl.lookup x = some c) :
    Cap (baseOf X.base cl s.heap) scope cl N (inner 0 js σ) := by
  have cell : ∀ {x : Str} {c : Addr} {v : Option Value}, cl.lookup x = some c → s.heap.IsCell c v → (baseOf X.base cl s.heap).IsCell c v := fun {x c v} e ⟨o, ho, hd⟩ => ⟨o, base_in ho (.inr ⟨x, e⟩), hd⟩
  refine ⟨fun x y c a b => I.ok.inj x y c (c1 x c a) (c1 y c b), fun x hx => c2 x (PySem.mem_of_lookup hx), fun x c e => ?_, fun i x v h1 h2 => ?_, ?_⟩
  · obtain ⟨v, hv⟩ := I.cell x c (c1 x c e)
    exact ⟨v, cell e hv⟩
  · obtain ⟨k, j, rfl, hk, hv⟩ := inner_get h2
    have h1' : (N.drop 0)[k]? = some x := by rw [List.getElem?_drop]; exact h1
    have hxm : x ∈ N.drop 0 := List.mem_of_getElem? h1'
    have hfree : scope.names.lookup x = some .free := B.fr x hxm
    have hj : X.N[j]? = some x := by
      rw [B.out, List.getElem?_map, hk] at h1'
      have hjl : j < X.N.length := B.js j (List.mem_of_getElem? hk)
      rw [List.getElem?_eq_getElem hjl]
      have e : X.N.getD j "" = x := by simpa using h1'
      rw [← e]
      simp [List.getD_eq_getElem?_getD, List.getElem?_eq_getElem hjl]
    have hcap := B.cap _ (PySem.mem_of_lookup hfree) rfl
    obtain ⟨m, hn, hl⟩ := I.loc
    obtain ⟨u, ru, lk⟩ := hl j x v hj hv (hcap.elim (fun z => .inr (.inl z)) fun z => .inr (.inr z))
    refine ⟨hfree, ?_⟩
    rcases lk with ⟨z, _⟩ | ⟨_, c, e, q⟩
    · exact absurd (show X.env.scope.names.lookup x = some .local from z) (by rcases hcap with y | y <;> (rw [y]; decide))
    · obtain ⟨c', e'⟩ := c2 x (PySem.mem_of_lookup hfree)
      have ec := c1 x c' e'
      rw [e] at ec
      cases ec
      exact ⟨u, c, ru, e', cell e' q⟩
  · unfold inner
    rw [List.length_append, List.length_replicate, List.length_map, B.len]
end
/-- what one promises that calls what it is given: R, Ec what is wanted of the thing's end and of its exceptions -/
def spRef (P : Program) (w : World) (K : PySem.W.Frag) (mg : Str → Option Value) (base : Heap) (k : Nat) (R : VK → VK) (Ec : VK → XK) : Sp := fun vs H Q _ =>
  ∃ f o fd, vs = [.ref f] ∧ H f = some (Fz f o) ∧ o.data = .func fd ∧ Runs P w K mg base k f H (R Q) (Ec Q)
def tRef (X : Cx) (T : Addr) (params : Arguments) (body : Expr) (scope : Scope) (js : List Nat) (R : VK → VK) (Ec : VK → XK) (te : XK → TE) : TE := fun σ H Q => Tab (lamQ X) H T ∧ ∀ f H', LamAt X T params body scope H f H' → te (Ec Q) (inner 0 js σ) H' (R Q)
section
variable {X : Cx} {T c r : Addr} {params : Arguments} {body : Expr} {scope : Scope} {x : Str} {p lpos pos : Pos} {k kr : Nat} {fd : FuncData} {px : Str} {R : VK → VK} {Ec : VK → XK} {te : XK → TE} {N : List Str} {js : List Nat} {qn : Str}
theorem pe_refuse (F : ∀ base, FnOk X.prog X.w X.K X.mg base CX0 kr r fd [px] (spRef X.prog X.w X.K X.mg base (k + 1) R Ec)) (hr : Room kr X.A) (hg : Gl X x) (hm : X.mg x = some (.ref r)) (hk : PySem.W.keepIn X.K (.ref r) = true) (hb : Binds X.K fd [px] [])
    (hfn : ∀ x, X.fn x = true) (hcode : X.env.code = .ref c) (C : PySem.W.CodeHd X.base c T) (Bl : BltAt X.mg X.base) (S : LamS scope) (B : Blk X.env.scope X.N N 0 js scope) (hqn : lamQ X = qn)
    (hbody : ∀ (base : Heap) (E : XK) (cl : List (Str × Addr)) (f : Addr) (cd : Value) (A : Around) (outer : List Env) (s : Shared) (H : Hp), Room k (A.deeper (PySem.W.envX qn scope s.heap.objs.size f cd cl)) →
      PE (lamCx X.prog X.w X.K X.mg base N qn scope cl f cd A outer s H E) body (te E))
    (hbind : ∀ cl pm cd ctv, bindArgs (PySem.W.kla_fn "<lambda>" qn params body scope cl pm cd ctv) ⟨[], []⟩ = pure [] := by intros; rfl)
    (hdef : defaultsOf params X.env = ([], []) := by rfl) (hdb : (x == ("__debug__" : Str)) = false := by decide) : PE X (.Call (.Name x p) [.Lambda params body scope lpos] [] pos) (tRef X T params body scope js R Ec te) := by
  intro pins s σ H Q I h
  subst hqn
  refine wpAny_Call_Name_kw (ld_glob I hg hm ?_ hdb)
  have ha : PA X [.Lambda params body scope lpos] (tCons (tLam X T params body scope) tNil) := pa_cons (pe_lam hcode C Bl B.cap hdef) pa_nil rfl
  refine PySem.W.callWith_K (h₀ := X.base) I.ok.mod.kin hk (thn (ha pos pins s σ H (fun vs H1 => ∃ f, vs = [.ref f] ∧ LamAt X T params body scope H f H1) I ⟨h.1, fun f H1 L => ⟨f, rfl, L⟩⟩) fun us s1 ⟨vs, H1, I1, r, f, ev, L⟩ => ⟨I1.kIn, ?_⟩) rfl rfl
  subst ev
  have q := h.2 f H1 L
  obtain ⟨cl, pm, c', ctv, oc, vs, t, a1, a2, a3, a4, c1, c2⟩ := L.ob
  have run : Runs X.prog X.w X.K X.mg (baseOf X.base cl s1.heap) (k + 1) f H1 (R Q) (Ec Q) :=
    runs_lam a1 a2 a3 a4 S (I1.cap B c1 c2) (hbind _ _ _ _) (fun A outer s hr => hbody _ _ _ _ _ _ _ _ _ hr) q
  have hl : us.length = [px].length := r.length.symm
  refine wpAny_call (codeAny_mono ((F (baseOf X.base cl s1.heap)).run X.A X.stack s1 H1 ⟨us, []⟩ us [.ref f] Q E0 hr (I1.env1 hfn c1) (by simpa using hb s1 us I1.kIn (by simpa using hl)) r ⟨f, _, _, rfl, a1, rfl, run⟩) fun rs s' hq => ?_)
  cases rs with
  | error e => exact False.elim hq
  | ok fl =>
    cases fl with
    | ret u => exact I1.after hq
    | next => exact False.elim hq
    | brk => exact False.elim hq
    | cont => exact False.elim hq
end
end L2
end
section
/-! sum of a list of ints; l.index(True) of a list of truths. -/
namespace L2
open PySem PySem.Spec PyProof.Rows
set_option maxHeartbeats 4000000
set_option maxRecDepth 100000
set_option Elab.async false
set_option linter.unusedVariables false
theorem eq_bools (a b : Bool) : MeetsSeq.EqGives (.bool a) (.bool b) (a == b) := fun prog w A E s Q h => SeqAt.EqAt.bool_bool (A := A) (s := s) a b prog w E Q h
section
variable {X : Cx}
theorem call_sumI (hc : X.calm = true) : CallR X (.builtin "sum") (fun xs H Q => ∃ (p : Addr) (ns : List Int), xs = [.ref p] ∧ SqL X.K H p (ns.map V.int) ∧ Q (.int ns.sum) H) := by
  intro pins s σ H xs us Q I r h
  obtain ⟨p, ns, rfl, hq, q⟩ := h
  obtain ⟨u, rfl, rx⟩ := vals1 r
  cases (show u = Value.ref p from rx)
  obtain ⟨its, r', pl, hz⟩ := I.list hq
  have all : ∀ (l : List Int) (vs : List Value), Vals (l.map V.int) vs → ∃ ps : List (Int × Tok), vs = ps.map (fun p => Value.int p.1 p.2) ∧ ps.map (·.1) = l := by
    intro l
    induction l with
    | nil => intro vs v; cases v; exact ⟨[], rfl, rfl⟩
    | cons n l ih =>
      intro vs v
      cases v with
      | cons a b =>
        obtain ⟨t, rfl⟩ := a
        obtain ⟨ps, rfl, e⟩ := ih _ b
        exact ⟨(n, t) :: ps, rfl, by rw [List.map_cons, e]⟩
  obtain ⟨ps, e1, e2⟩ := all ns its r'
  have hl : s.heap.IsList p (intItems ps.toArray) := by
    have z := pl.isList
    rw [e1] at z
    have e3 : (ps.map fun p => Value.int p.1 p.2).toArray = intItems ps.toArray := by unfold intItems; simp
    rw [e3] at z
    exact z
  refine sum_intListG (I.ok.hd hc) hl fun h' tk t' hk => ?_
  rw [preSum_eq, List.take_of_length_le (by simp)]
  have e4 : ps.toArray.toList.map (·.1) = ns := e2
  rw [e4]
  exact ⟨.int ns.sum, H, I.kept hk, ⟨_, rfl⟩, q⟩
def rIndexT : V → List V → Hp → VK → Prop := fun x vs H Q => ∃ (l : Addr) (bs : List Bool) (j : Nat), x = .ref l ∧ vs = [.bl true] ∧ H l = some (.lst (bs.map V.bl)) ∧ bs[j]? = some true ∧ (∀ i, i < j → bs[i]? = some false) ∧ Q (.int (j : Nat)) H
theorem mt_indexT : MtM X "list.index" rIndexT := by
  intro pins s σ H x vs v us Q I rx rv h
  obtain ⟨l, bs, j, rfl, rfl, hH, hj, hn, q⟩ := h
  cases rx
  obtain ⟨u, rfl, ru⟩ := rv.one
  cases ru
  obtain ⟨z, its, n, r, hl, e⟩ := I.lstM hH
  have at_ : ∀ (i : Nat) (b : Bool), bs[i]? = some b → its[i]? = some (Value.bool b) := fun i b hb => by
    obtain ⟨w', hw, rw'⟩ := r.get (show (bs.map V.bl)[i]? = some (V.bl b) by rw [List.getElem?_map, hb]; rfl)
    rw [hw, show w' = Value.bool b from rw']
  have back : ∀ y ∈ its.toArray, ∃ b, y = Value.bool b := fun y hy => by
    obtain ⟨i, hi, rfl⟩ := List.getElem_of_mem (List.mem_toArray.mp hy)
    have hb : i < bs.length := by rw [← hl, List.length_map] at hi; exact hi
    have := at_ i bs[i] (List.getElem?_eq_getElem hb)
    rw [List.getElem?_eq_getElem hi] at this
    exact ⟨_, Option.some.inj this⟩
  have hji : j < its.length := (List.getElem?_eq_some_iff.mp (at_ j true hj)).1
  have hzz : its.length ≤ sizeLine := hl ▸ z
  rw [sizeLine_eq] at hzz
  refine call_meets F.slot_list_index ⟨_, e, rfl⟩ F.entry_list_index (F.args_list_index_2 _ _)
    (MeetsSeq.list_index l its.toArray n (.bool true) (fun y => y == .bool true) (fun y hy => ?_) j (by simpa using hji) (by omega) ?_ fun m hm hlt => ?_) ⟨e, ?_⟩
  · obtain ⟨b, rfl⟩ := back y hy
    have := eq_bools b true
    cases b <;> exact this
  · have := at_ j true hj
    rw [List.getElem?_eq_getElem hji] at this
    have := Option.some.inj this
    simp [this]
  · have hm' : m < its.length := by simpa using hm
    have := at_ m false (hn m hlt)
    rw [List.getElem?_eq_getElem hm'] at this
    have := Option.some.inj this
    simp [this]
  · exact ⟨.int (j : Nat), H, I.tok _, ⟨_, rfl⟩, q⟩
end
end L2
end
section
/-! Defs that raise, by name; the law's call where the law makes lambdas. -/
namespace L2
open PySem PySem.Spec PyProof.Rows
set_option maxHeartbeats 4000000
set_option maxRecDepth 100000
set_option Elab.async false
set_option linter.unusedVariables false
def HasE (P : Program) (w : World) (K : PySem.W.Frag) (mg : Str → Option Value) (base : Heap) (k : Nat) (x : Str) (ps : List Str) (sp : Sp) : Prop :=
  ∃ (f : Addr) (fd : FuncData), FnOk P w K mg base (CXF P w) k f fd ps sp ∧ mg x = some (.ref f) ∧ PySem.W.keepIn K (.ref f) = true ∧ Binds K fd ps []
section
variable {X : Cx} {k k' : Nat} {x : Str} {ps : List Str} {sp : Sp} {e : Expr} {es : List Expr} {t : TA} {p pos : Pos} {E : XK}
theorem pe_defE (h : HasE X.prog X.w X.K X.mg X.base k x ps sp) (L : Lvs X E) (hr : Room k' X.A) (ha : PA X (e :: es) t) (hg : Gl X x := by rfl) (hk : k ≤ k' := by decide) (hdb : (x == ("__debug__" : Str)) = false := by decide)
    (he : starEach (e :: es) X.env = (false, eval e X.env) :: starEach es X.env := by rfl) (hpl : (backTo pos (starEach es X.env)).any (·.1) = false := by rfl) : PE X (.Call (.Name x p) (e :: es) [] pos) (tCall sp [] E t) := by
  obtain ⟨f, fd, F, m, kp, b⟩ := h
  exact pe_call F (hr.mono hk) hg m kp b .nil (L.pass fun _ _ _ z => z) ha hdb he hpl
end
section
variable {P : Program} {w : World} {K : PySem.W.Frag} {mg : Str → Option Value} {base : Heap}
theorem Fun.okE {x qual : Str} {st : Stmt} {f : Addr} {fd : FuncData} {N ps : List Str} {k : Nat} {sp : Sp} (F : Fun K x qual st f fd) (S : FnScope N ps (defScope st)) (len : ∀ vs H Q E, sp vs H Q E → vs.length = ps.length)
    (hbody : ∀ (cdv : Value) (A : Around) (outer : List Env) (s : Shared) (H : Hp) (vs : List V) (Q : VK) (E : XK), Room k (A.deeper (envOfC qual (defScope st) s.heap.objs.size f cdv)) → sp vs H Q E →
      ∃ t, PSs (cxOf (CXF P w) P w K mg base N qual (defScope st) f cdv A outer s H E) (defBody st) t ∧ t { nx := fun _ H' => Q .non H', rt := Q } (start N vs) H) : FnOk P w K mg base (CXF P w) (k + 1) f fd ps sp := by
  obtain ⟨oc, od, kV, doc, pm, an, cdv, ct, osl, rfl, lk, hcd⟩ := F.ex
  exact fn_of lk hcd S len fun A outer s H vs Q E hr hsp => hbody cdv A outer s H vs Q E hr hsp
/-- a def whose code object is known -/
theorem Fun.okC {x qual : Str} {st : Stmt} {f : Addr} {fd : FuncData} {N ps : List Str} {k : Nat} {sp : Sp} (F : Fun K x qual st f fd) (S : FnScope N ps (defScope st)) (len : ∀ vs H Q E, sp vs H Q E → vs.length = ps.length)
    (hbody : ∀ (A : Around) (outer : List Env) (s : Shared) (H : Hp) (vs : List V) (Q : VK) (E : XK), Room k (A.deeper (envOfC qual (defScope st) s.heap.objs.size f fd.code)) → sp vs H Q E →
      ∃ t, PSs (cxOf CX0 P w K mg base N qual (defScope st) f fd.code A outer s H E).nox (defBody st) t ∧ t { nx := fun _ H' => Q .non H', rt := Q } (start N vs) H) : FnOk P w K mg base CX0 (k + 1) f fd ps sp := by
  obtain ⟨oc, od, kV, doc, pm, an, cdv, ct, osl, rfl, lk, hcd⟩ := F.ex
  refine fn_of lk hcd S len fun A outer s H vs Q E hr hsp => ?_
  obtain ⟨t, h, q⟩ := hbody A outer s H vs Q E hr hsp
  exact ⟨t, h.nox, q⟩
end
/-- the law is called; T the table of its code -/
theorem law_callT {P : Program} {w : World} {K : PySem.W.Frag} {mg mb : Str → Option Value} {k : Nat} {fa a c T : Addr} {fd : FuncData} {x : Str} {sp : Sp} {s₁ : Shared} {vs : List Value} {ns : List Int} {R : Result → Shared → Prop}
    (KX : K.In s₁.heap) (hns : s₁.heap.Ns mainGlobals mg) (hb : s₁.heap.Ns builtinsNs mb) (hbb : ∀ x : Str, x ≠ "__name__" → mb x = bootBuiltins x) (hlim : s₁.heap.NoLimit) (hg : s₁.gens = #[]) (B : BltAt mg s₁.heap)
    (hKT : K.lookup T = none) (hT : s₁.heap.get? T = some (PySem.W.tabObj #[])) (C : PySem.W.codeHdIn K c T = true)
    (ha : s₁.heap.get? a = some { cls := .type "list", data := .seq vs.toArray }) (hi : IntsAre vs ns) (hl : ns.length ≤ sizeLine) (hr : Room k callerA)
    (F : ∀ base : Heap, K.In base → base.Ns mainGlobals mg → BltAt mg base → FnOk P w K mg base CX0 k fa fd [x] sp) (hbind : BindsTo s₁ fd ⟨[.ref a], []⟩ [(x, .ref a)])
    (hsp : ∀ H : Hp, H T = some (.tbl #[]) → SqL K H a (ns.map V.int) → sp [.ref a] H (fun v _ => v = .bl true) E0)
    (hR : ∀ s', OldK s₁.heap s'.heap → s'.os = s₁.os → AllBare s'.gens → R (.ok (.ret (.bool true))) s') : codeAny (model P w) callerA (.call (.ref fa) ⟨[.ref a], []⟩) R s₁ := by
  have aT : a ≠ T := fun z => by rw [z, hT] at ha; cases ha
  obtain ⟨S, H, hS, tT, sq, hok, only⟩ : ∃ (S : List Addr) (H : Hp), (∀ b, H b = none ↔ b ∉ S) ∧ H T = some (.tbl #[]) ∧ SqL K H a (ns.map V.int) ∧ HOk P w H s₁.heap ∧ ∀ b ∈ S, K.lookup b = none ∧ (b = T ∨ b = a ∧ ∃ o u, H a = some (.frz o u)) := by
    have okT : ∀ H, ObjOk P w H s₁.heap T (.tbl #[]) := fun _ => hT
    cases hk : K.lookup a with
    | some o =>
      have e := KX a o hk
      rw [ha] at e
      cases e
      refine ⟨[T], upd (fun _ => none) T (.tbl #[]), fun b => ?_, upd_same, .inr ⟨_, vs.toArray, _, hk, rfl, rfl, rfl, by rw [List.size_toArray, hi.length]; exact hl, by simpa using vals_ints hi⟩, fun b u z => ?_, fun b hb => ?_⟩
      · by_cases z : b = T
        · subst z; simp [upd_same]
        · simp [upd_ne z, z]
      · by_cases q : b = T
        · subst q; rw [upd_same] at z; cases z; exact okT _
        · rw [upd_ne q] at z; cases z
      · obtain rfl := List.mem_singleton.mp hb
        exact ⟨hKT, .inl rfl⟩
    | none =>
      obtain ⟨H, hH⟩ : ∃ H, H = upd (upd (fun _ => none) a (.frz { cls := .type "list", data := .seq vs.toArray } (.lst (ns.map V.int)))) T (.tbl #[]) := ⟨_, rfl⟩
      have hHa : H a = some (.frz { cls := .type "list", data := .seq vs.toArray } (.lst (ns.map V.int))) := by rw [hH, upd_ne aT, upd_same]
      refine ⟨[T, a], H, fun b => ?_, by rw [hH, upd_same], .inl (.inr ⟨_, hHa⟩), fun b u z => ?_, fun b hb => ?_⟩
      · by_cases z : b = T
        · subst z; simp [hH, upd_same]
        · by_cases z2 : b = a
          · subst z2; simp [hHa]
          · simp [hH, upd_ne z, upd_ne z2, z, z2]
      · by_cases q : b = T
        · subst q; rw [hH, upd_same] at z; cases z; exact okT _
        · by_cases q2 : b = a
          · subst q2
            rw [hHa] at z
            cases z
            exact ⟨ha, by rw [List.length_map]; exact hl, vs, _, vals_ints hi, ha⟩
          · rw [hH, upd_ne q, upd_ne q2] at z; cases z
      · rcases List.mem_cons.mp hb with rfl | hb
        · exact ⟨hKT, .inl rfl⟩
        · obtain rfl := List.mem_singleton.mp hb
          exact ⟨hk, .inr ⟨rfl, _, _, hHa⟩⟩
  have inB : ∀ {b : Addr} {o : Obj}, s₁.heap.get? b = some o → (∀ ps, o ≠ PySem.W.tabObj ps) → (∀ its n, o.data ≠ .seq its n) → (lessOf S s₁.heap).get? b = some o := fun {b o} e h1 h2 => by
    rw [less_out]
    · exact e
    · intro z
      rcases (only b z).2 with q | ⟨q, _⟩
      · rw [q, hT] at e; exact h1 _ (Option.some.inj e).symm
      · rw [q, ha] at e; cases e; exact h2 _ _ rfl
  have nsB : ∀ {b : Addr} {m : Str → Option Value}, s₁.heap.Ns b m → (lessOf S s₁.heap).Ns b m := fun {b m} ⟨o, es, ep, e, d, r⟩ =>
    ⟨o, es, ep, inB e (fun ps z => by rw [z] at d; cases d) (fun _ _ z => by rw [d] at z; cases z), d, r⟩
  have kB : K.In (lessOf S s₁.heap) := fun b o e => by
    rw [less_out]
    · exact KX b o e
    · intro z
      rw [(only b z).1] at e; cases e
  have bB : BltAt mg (lessOf S s₁.heap) := let ⟨bm, o, b1, b2, b3, b4, b5, b6, b7⟩ := B
    ⟨bm, o, b1, b2, b3, inB b4 (fun ps z => by rw [z] at b7; cases b7) (fun _ _ z => by rw [b7] at z; cases z), b5, b6, b7⟩
  have e0 : Env0 P w K mg (lessOf S s₁.heap) callerA [] s₁ H :=
    ⟨rfl, ⟨kB, nsB hns, ⟨mb, nsB hb, hbb⟩, let ⟨mc, h1, h2⟩ := hlim; ⟨mc, nsB h1, h2⟩⟩, fun b o e => ⟨(less_some e).2, (hS b).mpr (less_some e).1⟩, Nat.le_of_eq (less_size _ _), trivial, fun b z => (nomatch z), hok, .of_eq hg⟩
  refine codeAny_mono ((F _ kB (nsB hns) bB).run callerA [] s₁ H ⟨[.ref a], []⟩ [.ref a] [.ref a] _ _ hr e0 hbind (.cons rfl .nil) (hsp H tT sq)) fun r s' h => ?_
  cases r with
  | error e => exact False.elim h
  | ok fl =>
    cases fl with
    | next => exact False.elim h
    | brk => exact False.elim h
    | cont => exact False.elim h
    | ret u =>
      obtain ⟨v, H', os, bare, un, hok', r', q⟩ := h
      obtain rfl : v = .bl true := q
      obtain rfl : u = Value.bool true := r'
      refine hR s' ⟨fun b o e => ?_, fun b o e => un.there b o e (by simp)⟩ os bare
      by_cases z : b ∈ S
      · rcases (only b z).2 with y | ⟨y, o2, u2, y2⟩
        · subst y
          rw [hT] at e
          cases e
          obtain ⟨more, m1⟩ := un.tbls _ _ tT
          exact .inr (.inl ⟨((PySem.W.codeHd_of_K KX C).tab hT).isCodeTable, rfl, #[], more, rfl, hok' _ _ m1⟩)
        · subst y
          have e1 := (hok _ _ y2).1
          rw [e] at e1
          cases e1
          exact .inl (hok' _ _ (un.frzs _ _ _ y2)).1
      · exact .inl (un.keep b o e ((hS b).mpr z) (fun y => nomatch y) (by simp))
theorem walk_ofT {l : PySem.W.OpenLaw} {n k : Nat} {q : Program} {loose : List Str} {XP : (Str → Option Value) → Heap → Prop} {YP : World → Heap → Prop} {d : DefRec} {K : Params → PySem.W.Frag} {sp : World → Sp} {x : Str} {T : Addr}
    (hn : l.most = some n) (hn2 : n ≤ sizeLine) (hdf : d.params.defaults = []) (hr : Room k callerA) (hY : ∀ (w : World) (h : Heap), YP w h → (K w.params).In h ∧ h.get? T = some (PySem.W.tabObj #[]))
    (F : ∀ (w : World) (mg : Str → Option Value) (fa : Addr) (h : Heap), (K w.params).In h → h.Ns mainGlobals mg → mg d.name = some (.ref fa) →
      ∃ (fd : FuncData) (c : Addr), (∀ (s : Shared) (u : Value), BindsTo s fd ⟨[u], []⟩ [(x, u)]) ∧ (K w.params).lookup T = none ∧ PySem.W.codeHdIn (K w.params) c T = true ∧
        ∀ base : Heap, (K w.params).In base → base.Ns mainGlobals mg → BltAt mg base → FnOk l.prog w (K w.params) mg base CX0 k fa fd [x] (sp w))
    (hsp : ∀ (w : World) (H : Hp) (a : Addr) (ns : List Int), ns.length ≤ n → H T = some (.tbl #[]) → SqL (K w.params) H a (ns.map V.int) → sp w [.ref a] H (fun v _ => v = .bl true) E0) :
    PySem.W.WalkO q loose XP YP l.row.toRowW d [] (fun f vs => PySem.call f vs) := by
  refine Att.attach_call hn hdf fun w s₀ s₁ mg mb fa o pm cd doc a vs ns G Y ho hd hcd hmg hobj hints hlen hg => ?_
  obtain ⟨KX, hT⟩ := hY w _ Y
  obtain ⟨fd, c, hb, k1, k2, hF⟩ := F w mg fa _ KX G.T.g hmg
  obtain ⟨bm, ob, b1, b2, b3, b4, b5, b6⟩ := G.T.bmain
  have b7 : bm ≠ mainGlobals := fun z => by
    obtain ⟨u, es, ep, e, hd, _⟩ := G.T.g
    rw [z, e] at b3
    cases b3
    rw [hd] at b6
    cases b6
  exact law_callT KX G.T.g G.T.b G.T.builtins G.T.nolimit hg ⟨bm, ob, b1, b2, b7, b3, b4, b5, b6⟩ k1 hT k2 hobj hints (Nat.le_trans hlen hn2) hr hF (hb _ _) (fun H h1 h2 => hsp w H a ns hlen h1 h2) fun s' h1 h2 h3 => ⟨rfl, h1, h2, h3⟩
end L2
end
section
/-! f(lambda: ..) with the scopes by name. -/
namespace L2
open PySem PySem.Spec PyProof.Rows
set_option maxHeartbeats 4000000
set_option maxRecDepth 100000
set_option Elab.async false
set_option linter.unusedVariables false
/-- one that calls what it is given, by name, over every base -/
def HasR (P : Program) (w : World) (K : PySem.W.Frag) (mg : Str → Option Value) (kr k : Nat) (x px : Str) (R : VK → VK) (Ec : VK → XK) : Prop :=
  ∃ (f : Addr) (fd : FuncData), (∀ base, FnOk P w K mg base CX0 kr f fd [px] (spRef P w K mg base k R Ec)) ∧ mg x = some (.ref f) ∧ PySem.W.keepIn K (.ref f) = true ∧ Binds K fd [px] []
section
variable {X : Cx} {T c : Addr} {params : Arguments} {body : Expr} {scope sc : Scope} {x : Str} {p lpos pos : Pos} {k kr k' : Nat} {px : Str} {R : VK → VK} {Ec : VK → XK} {te : XK → TE} {N N0 : List Str} {js : List Nat}
theorem pe_lambda (h : HasR X.prog X.w X.K X.mg kr (k + 1) x px R Ec) (hr : Room k' X.A) (hcode : X.env.code = .ref c) (C : PySem.W.CodeHd X.base c T) (Bl : BltAt X.mg X.base) (hsc : X.env.scope = sc) (hN : X.N = N0) (S : LamS scope) (B : Blk sc N0 N 0 js scope)
    (hbody : ∀ (base : Heap) (E : XK) (cl : List (Str × Addr)) (f : Addr) (cd : Value) (A : Around) (outer : List Env) (s : Shared) (H : Hp), Room k (A.deeper (PySem.W.envX (lamQ X) scope s.heap.objs.size f cd cl)) →
      PE (lamCx X.prog X.w X.K X.mg base N (lamQ X) scope cl f cd A outer s H E) body (te E))
    (hfn : ∀ x, X.fn x = true := by intro _; rfl) (hk : kr ≤ k' := by decide) (hg : Gl X x := by rfl)
    (hbind : ∀ cl pm cd ctv, bindArgs (PySem.W.kla_fn "<lambda>" (lamQ X) params body scope cl pm cd ctv) ⟨[], []⟩ = pure [] := by intros; rfl)
    (hdef : defaultsOf params X.env = ([], []) := by rfl) (hdb : (x == ("__debug__" : Str)) = false := by decide) : PE X (.Call (.Name x p) [.Lambda params body scope lpos] [] pos) (tRef X T params body scope js R Ec te) := by
  subst hsc hN
  obtain ⟨f, fd, F, m, kp, b⟩ := h
  exact pe_refuse F (hr.mono hk) hg m kp b hfn hcode C Bl S B rfl hbody hbind hdef hdb
end
end L2
end
section
/-! sum of a tuple of ints. -/
namespace L2
open PySem PySem.Spec PyProof.Rows
set_option maxHeartbeats 4000000
set_option maxRecDepth 100000
set_option Elab.async false
set_option linter.unusedVariables false
section
variable {X : Cx}
end
end L2
end
section
/-! A loop over any iterator whose items are known. -/
namespace L2
open PySem PySem.Spec PyProof.Rows
set_option maxHeartbeats 4000000
set_option Elab.async false
set_option linter.unusedVariables false
end L2
end
section
/-! Tuples of pairs held side by side. -/
namespace L2
open PySem PySem.Spec PyProof.Rows
set_option maxHeartbeats 4000000
set_option maxRecDepth 100000
set_option Elab.async false
set_option linter.unusedVariables false
section
variable {X : Cx}
end
end L2
end
section
/-! sorted(l) of a list of pairs of ints whose first ones are all unlike. -/
namespace L2
open PySem PySem.Spec PySem.W PyProof.Rows
set_option maxHeartbeats 4000000
set_option maxRecDepth 100000
set_option Elab.async false
set_option linter.unusedVariables false
section
variable {prog : Program} {w : World} {A : Around} {E : Value → Shared → Prop} {s : Shared}
end
end L2
namespace L2
open PySem PySem.Spec PySem.W PyProof.Rows
set_option maxHeartbeats 4000000
set_option maxRecDepth 100000
end L2
end
section
/-! sorted(l) of a list of pairs (tuple of ints, int) whose tuples are all unlike; sorted(d.items()). -/
namespace L2
open PySem PySem.Spec PySem.W PyProof.Rows
set_option maxHeartbeats 4000000
set_option maxRecDepth 100000
set_option Elab.async false
set_option linter.unusedVariables false
section
variable {X : Cx} {pins : List (Addr × Obj)} {σ : St} {H H' : Hp} {s : Shared} {h' : Heap}
end
/-! ### tuples of ints, in order -/
theorem lx_irr : ∀ x : List Int, HT.lexLt x x = false
  | [] => rfl
  | a :: x => by rw [HT.lexLt_cons, if_pos rfl]; exact lx_irr x
theorem lx_trans : ∀ {x y z : List Int}, HT.lexLt x y = true → HT.lexLt y z = true → HT.lexLt x z = true
  | [], [], _, h, _ => by cases h
  | [], _ :: _, [], _, h => by cases h
  | [], _ :: _, _ :: _, _, _ => rfl
  | _ :: _, [], _, h, _ => by cases h
  | _ :: _, _ :: _, [], _, h => by cases h
  | a :: x, b :: y, c :: z, h1, h2 => by
    rw [HT.lexLt_cons] at h1 h2 ⊢
    by_cases ab : a = b
    · rw [if_pos ab] at h1
      subst ab
      by_cases ac : a = c
      · rw [if_pos ac] at h2 ⊢
        exact lx_trans h1 h2
      · rw [if_neg ac] at h2 ⊢
        exact h2
    · rw [if_neg ab] at h1
      have h1 := of_decide_eq_true h1
      by_cases bc : b = c
      · subst bc
        rw [if_neg ab]
        exact decide_eq_true h1
      · rw [if_neg bc] at h2
        have h2 := of_decide_eq_true h2
        rw [if_neg (by omega)]
        exact decide_eq_true (by omega)
theorem lx_tri : ∀ {x y : List Int}, x ≠ y → HT.lexLt x y = false → HT.lexLt y x = true
  | [], [], n, _ => absurd rfl n
  | [], _ :: _, _, h => by cases h
  | _ :: _, [], _, _ => rfl
  | a :: x, b :: y, n, h => by
    rw [HT.lexLt_cons] at h ⊢
    by_cases ab : a = b
    · subst ab
      rw [if_pos rfl] at h ⊢
      exact lx_tri (fun e => n (by rw [e])) h
    · rw [if_neg ab] at h
      rw [if_neg (fun e => ab e.symm)]
      have := of_decide_eq_false h
      exact decide_eq_true (by omega)
/-- how many are before it -/
def rnk (L : List (List Int)) (x : List Int) : Int := ((L.countP fun y => HT.lexLt y x : Nat) : Int)
theorem rnk_le (L : List (List Int)) {x y : List Int} (h : HT.lexLt x y = true) : rnk L x ≤ rnk L y := by
  have : L.countP (fun z => HT.lexLt z x) ≤ L.countP (fun z => HT.lexLt z y) := List.countP_mono_left fun z _ hz => lx_trans hz h
  unfold rnk
  omega
theorem rnk_lt {L : List (List Int)} {x y : List Int} (hx : x ∈ L) (h : HT.lexLt x y = true) : rnk L x < rnk L y := by
  obtain ⟨a, b, rfl⟩ := List.append_of_mem hx
  have e : ∀ z, rnk (a ++ x :: b) z = rnk a z + rnk b z + if HT.lexLt x z then 1 else 0 := fun z => by
    unfold rnk
    rw [List.countP_append, List.countP_cons]
    split <;> simp_all <;> omega
  have h1 := rnk_le a h
  have h2 := rnk_le b h
  rw [e x, e y, lx_irr, h]
  simp
  omega
theorem rnk_iff {L : List (List Int)} {x y : List Int} (hx : x ∈ L) (hy : y ∈ L) : decide (rnk L x < rnk L y) = HT.lexLt x y := by
  by_cases e : x = y
  · subst e
    rw [lx_irr]
    exact decide_eq_false (by omega)
  · cases h : HT.lexLt x y with
    | true => exact decide_eq_true (rnk_lt hx h)
    | false =>
      have := rnk_lt hy (lx_tri e h)
      exact decide_eq_false (by omega)
theorem rnk_inj {L : List (List Int)} {x y : List Int} (hx : x ∈ L) (hy : y ∈ L) (h : rnk L x = rnk L y) : x = y := by
  by_cases e : x = y
  · exact e
  · cases z : HT.lexLt x y with
    | true => have := rnk_lt hx z; omega
    | false => have := rnk_lt hy (lx_tri e z); omega
/-- at v stands the tuple (t, b) -/
def NestAt (h : Heap) (v : Value) (t : List Int) (b : Int) : Prop := ∃ (x : Addr) (o : Obj) (k : Nat) (p : Addr) (u : Tok) (its : List Value), v = .ref x ∧ h.get? x = some o ∧ o.cls = .type "tuple" ∧ o.data = .seq #[.ref p, .int b u] k ∧ IsTup h p its.toArray ∧ Vals (t.map V.int) its
theorem NestAt.old {h h' : Heap} {v : Value} {t : List Int} {b : Int} (n : NestAt h v t b) (k : ∀ (x : Addr) (o : Obj), h.get? x = some o → o.cls ≠ .type "list" → h'.get? x = some o) : NestAt h' v t b := by
  obtain ⟨x, o, m, p, u, its, e, hx, hc, hd, ⟨o2, h2, c2, d2⟩, hi⟩ := n
  exact ⟨x, o, m, p, u, its, e, k _ _ hx (by rw [hc]; simp), hc, hd, ⟨o2, k _ _ h2 (by rw [c2]; simp), c2, d2⟩, hi⟩
section
variable {prog : Program} {w : World} {A : Around} {E : Value → Shared → Prop} {s : Shared}
theorem ints_of_vals : ∀ {t t' : List Int} {its : List Value}, Vals (t.map V.int) its → Vals (t'.map V.int) its → t = t'
  | [], [], _, _, _ => rfl
  | [], _ :: _, _, h, h' => by cases h; cases h'
  | _ :: _, [], _, h, h' => by cases h'; cases h
  | a :: t, b :: t', _, .cons x r, h' => by
    cases h' with
    | cons y r' =>
      obtain ⟨k, rfl⟩ := int_val x
      obtain ⟨k', e⟩ := int_val y
      injection e with e1 _
      rw [e1, ints_of_vals r r']
end
/-- pairs of a tuple of ints and an int -/
def Nsts (H : Hp) (xs : List V) (bl : List (List Int × Int)) : Prop := xs.length = bl.length ∧ ∀ (j : Nat) (b : List Int × Int), bl[j]? = some b → ∃ p q : Addr, xs[j]? = some (.ref p) ∧ H p = some (.tup [.ref q, .int b.2]) ∧ H q = some (.tup (b.1.map V.int))
theorem Nsts.same {H H' : Hp} {xs : List V} {bl : List (List Int × Int)} (n : Nsts H xs bl) (s : Same H H') : Nsts H' xs bl := ⟨n.1, fun j b e => let ⟨p, q, a, c, d⟩ := n.2 j b e; ⟨p, q, a, s _ _ c, s _ _ d⟩⟩
end L2
end
section
/-! Walking a dict, whatever its keys are. -/
namespace L2
open PySem PySem.Spec PySem.W PyProof.Rows
set_option maxHeartbeats 4000000
set_option maxRecDepth 100000
set_option Elab.async false
set_option linter.unusedVariables false
section
variable {prog : Program} {w : World} {A : Around} {E : Value → Shared → Prop} {s : Shared}
end
end L2
end
section
/-! for k in d: a dict with tuples for keys, held fixed. -/
namespace L2
open PySem PySem.Spec PySem.W PyProof.Rows
set_option maxHeartbeats 4000000
set_option maxRecDepth 100000
set_option Elab.async false
set_option linter.unusedVariables false
section
variable {X : Cx} {tg : Expr}
end
end L2
end
section
/-! d.items() of a dict, whatever its keys are, put in a list. -/
namespace L2
open PySem PySem.Spec PySem.W PyProof.Rows
set_option maxHeartbeats 4000000
set_option maxRecDepth 100000
set_option Elab.async false
set_option linter.unusedVariables false
section
variable {prog : Program} {w : World} {A : Around} {E : Value → Shared → Prop} {s : Shared}
end
end L2
end
section
/-! d.items() of a dict, whatever its keys are, put in a list. -/
namespace L2
open PySem PySem.Spec PySem.W PyProof.Rows
set_option maxHeartbeats 4000000
set_option maxRecDepth 100000
set_option Elab.async false
set_option linter.unusedVariables false
section
variable {prog : Program} {w : World} {A : Around} {E : Value → Shared → Prop} {s : Shared}
end
end L2
end
section
/-! d.items() of a dict, whatever its keys are, put in a list. -/
namespace L2
open PySem PySem.Spec PySem.W PyProof.Rows
set_option maxHeartbeats 4000000
set_option maxRecDepth 100000
set_option Elab.async false
set_option linter.unusedVariables false
section
variable {prog : Program} {w : World} {A : Around} {E : Value → Shared → Prop} {s : Shared}
end
end L2
end
section
/-! All the items of a dict, as a list. -/
namespace L2
open PySem PySem.Spec PySem.W PyProof.Rows
set_option maxHeartbeats 4000000
set_option maxRecDepth 100000
set_option Elab.async false
set_option linter.unusedVariables false
section
variable {prog : Program} {w : World} {A : Around} {E : Value → Shared → Prop} {s : Shared}
/-- the first i items, as they lie -/
structure Its5 (h : Heap) (lo : Addr) (es : Array DictEntry) (vs : List Value) : Prop where
  len : vs.length ≤ es.size
  at_ : ∀ (j : Nat) (v : Value), vs[j]? = some v → ∃ (hj : j < es.size) (a : Addr), v = .ref a ∧ lo < a ∧ h.get? a = some { cls := .type "tuple", data := .seq #[es[j].key, es[j].val] }
  up : ∀ (i j : Nat) (a b : Addr), i < j → vs[i]? = some (.ref a) → vs[j]? = some (.ref b) → a < b
theorem Its5.keep {h h' : Heap} {lo : Addr} {es : Array DictEntry} {vs : List Value} (t : Its5 h lo es vs) (k : ∀ b o, lo < b → h.get? b = some o → h'.get? b = some o) : Its5 h' lo es vs :=
  ⟨t.len, fun j v e => let ⟨hj, a, x, y, z⟩ := t.at_ j v e; ⟨hj, a, x, y, k _ _ y z⟩, t.up⟩
end
end L2
end
section
/-! sorted(d.items()) of a dict with tuples of ints for keys. -/
namespace L2
open PySem PySem.Spec PySem.W PyProof.Rows
set_option maxHeartbeats 4000000
set_option maxRecDepth 100000
set_option Elab.async false
set_option linter.unusedVariables false
section
variable {P : Program} {w : World} {A : Around} {E : Value → Shared → Prop} {s : Shared}
end
end L2
end
section
/-! sorted(d.items()): the pairs, in order. -/
namespace L2
open PySem PySem.Spec PySem.W PyProof.Rows
set_option maxHeartbeats 4000000
set_option maxRecDepth 100000
set_option Elab.async false
set_option linter.unusedVariables false
def kvT (q : List Int × Int) : List Key × V := (q.1.map Sum.inl, .int q.2)
end L2
end
section
/-! Depths by a stack, and what is peeled off. -/
namespace BB
set_option linter.unusedVariables false
/-- balls from x on, with so many empty boxes behind each -/
def pos : Int → List Nat → List Int
  | _, [] => []
  | x, g :: r => x :: pos (x + 1 + (g : Int)) r
/-- without the depths 1, each less by one -/
def fewer (l : List Nat) : List Nat := (l.filter fun d => decide (2 ≤ d)).map (· - 1)
/-- the gaps between -/
def tk : List Int → List Nat
  | [] => []
  | [_] => []
  | p :: q :: r => (q - p - 1).toNat :: tk (q :: r)
end BB
end
section
/-! Takings and peelings. -/
namespace BB
set_option linter.unusedVariables false
/-- how many are taken, by gaps -/
def tg (s : Nat) : Nat → List Nat → Nat
  | _, [] => 0
  | L, g :: r => if L < s then 1 + tg s (L + 1 - g) r else tg s (L - g) r
end BB
end
section
/-! Two carriers, one behind the other: whichever is first. -/
namespace BB
set_option linter.unusedVariables false
set_option maxHeartbeats 4000000
def tk1 (z L : Nat) (b : Bool) : Nat := if b = true ∧ L < z then 1 else 0
/-- the loads p, q where the other carrier is first -/
structure Rl (a b u v p q A B : Nat) : Prop where
  e1 : p + B = v + A
  e2 : q + A = u + B
  a1 : A ≤ u
  a2 : A + v ≤ b
  a3 : A = u ∨ A + v = b
  b1 : B ≤ v
  b2 : B + u ≤ a
  b3 : B = v ∨ B + u = a
/-- how many are taken, box by box -/
def tb (z : Nat) : Nat → List Bool → Nat
  | _, [] => 0
  | L, b :: r => tk1 z L b + tb z (stp z L b).1 r
end BB
end
section
/-! Counts of things, kept in a dict by tuples; sorted, they are told by how many there are of each. -/
namespace L2
open PySem PySem.Spec PySem.W PyProof.Rows
set_option maxHeartbeats 4000000
set_option maxRecDepth 100000
set_option Elab.async false
set_option linter.unusedVariables false
/-- how many there are of each -/
structure Cnt (bl : List (List Int × Int)) (xs : List (List Int)) : Prop where
  nd : (bl.map (·.1)).Nodup
  mem : ∀ t n, (t, n) ∈ bl ↔ 0 < xs.count t ∧ n = ((xs.count t : Nat) : Int)
theorem Cnt.nil : Cnt [] [] := ⟨List.nodup_nil, fun t n => by simp⟩
theorem Cnt.perm {bl bl' : List (List Int × Int)} {xs : List (List Int)} (c : Cnt bl xs) (p : bl'.Perm bl) : Cnt bl' xs :=
  ⟨(p.map (·.1)).nodup_iff.mpr c.nd, fun t n => by rw [p.mem_iff]; exact c.mem t n⟩
theorem inl_inj {s t : List Int} (h : s.map (Sum.inl : Int → Key) = t.map Sum.inl) : s = t := by
  induction s generalizing t with
  | nil => cases t with
    | nil => rfl
    | cons _ _ => cases h
  | cons a s ih => cases t with
    | nil => cases h
    | cons b t =>
      rw [List.map_cons, List.map_cons] at h
      injection h with h1 h2
      rw [Sum.inl.inj h1, ih h2]
theorem valT (bl : List (List Int × Int)) (t : List Int) : valV (bl.map kvT) (t.map Sum.inl) = (bl.find? fun q => decide (q.1 = t)).map fun q => .int q.2 := by
  induction bl with
  | nil => rfl
  | cons q r ih =>
    rw [List.map_cons, List.find?_cons]
    by_cases c : q.1 = t
    · rw [valV_pos (p := kvT q) (by show q.1.map Sum.inl = _; rw [c]), decide_eq_true c]
      rfl
    · rw [valV_neg (p := kvT q) (fun z => c (inl_inj z)), ih, decide_eq_false c]
theorem Cnt.get {bl : List (List Int × Int)} {xs : List (List Int)} (c : Cnt bl xs) (t : List Int) : (valV (bl.map kvT) (t.map Sum.inl)).getD (.int 0) = .int ((xs.count t : Nat) : Int) := by
  rw [valT]
  cases e : bl.find? fun q => decide (q.1 = t) with
  | none =>
    have no : ¬ 0 < xs.count t := fun z => by
      have := List.find?_eq_none.mp e (t, _) ((c.mem t _).mpr ⟨z, rfl⟩)
      simp at this
    show V.int 0 = _
    rw [Nat.eq_zero_of_not_pos no]
    rfl
  | some q =>
    have h1 := List.find?_some e
    have h2 := List.mem_of_find?_eq_some e
    have h3 : q.1 = t := of_decide_eq_true h1
    have := (c.mem q.1 q.2).mp h2
    show V.int q.2 = _
    rw [this.2, h3]
theorem Cnt.some {bl : List (List Int × Int)} {xs : List (List Int)} (c : Cnt bl xs) {t : List Int} {n : Int} (h : (t, n) ∈ bl) : valV (bl.map kvT) (t.map Sum.inl) = some (.int n) := by
  rw [valT]
  cases e : bl.find? fun q => decide (q.1 = t) with
  | none =>
    have := List.find?_eq_none.mp e (t, n) h
    simp at this
  | some q =>
    have h1 := List.find?_some e
    have h2 := List.mem_of_find?_eq_some e
    have h3 : q.1 = t := of_decide_eq_true h1
    have := (c.mem q.1 q.2).mp h2
    have := (c.mem t n).mp h
    show Option.some (V.int q.2) = _
    rw [this.2]
    simp_all
/-- in order, they are told by how many there are of each -/
theorem lex_one : ∀ {xs ys : List (List Int × Int)}, xs.Pairwise (fun x y => HT.lexLt x.1 y.1 = true) → ys.Pairwise (fun x y => HT.lexLt x.1 y.1 = true) → (∀ z, z ∈ xs ↔ z ∈ ys) → xs = ys
  | [], [], _, _, _ => rfl
  | [], y :: ys, _, _, h => by have := (h y).mpr List.mem_cons_self; cases this
  | x :: xs, [], _, _, h => by have := (h x).mp List.mem_cons_self; cases this
  | x :: xs, y :: ys, hx, hy, h => by
    obtain ⟨x1, x2⟩ := List.pairwise_cons.mp hx
    obtain ⟨y1, y2⟩ := List.pairwise_cons.mp hy
    have e : x = y := by
      rcases List.mem_cons.mp ((h x).mp List.mem_cons_self) with z | z
      · exact z
      · rcases List.mem_cons.mp ((h y).mpr List.mem_cons_self) with w | w
        · exact w.symm
        · have a := y1 _ z
          have b := x1 _ w
          have := lx_trans a b
          rw [lx_irr] at this
          cases this
    subst e
    have nx : ∀ z ∈ xs, z ≠ x := fun z hz e => by have := x1 z hz; rw [e, lx_irr] at this; cases this
    have ny : ∀ z ∈ ys, z ≠ x := fun z hz e => by have := y1 z hz; rw [e, lx_irr] at this; cases this
    rw [lex_one x2 y2 fun z => ⟨fun hz => ?_, fun hz => ?_⟩]
    · exact (List.mem_cons.mp ((h z).mp (List.mem_cons_of_mem _ hz))).resolve_left (nx z hz)
    · exact (List.mem_cons.mp ((h z).mpr (List.mem_cons_of_mem _ hz))).resolve_left (ny z hz)
theorem Cnt.one {bl cl : List (List Int × Int)} {xs : List (List Int)} (c : Cnt bl xs) (d : Cnt cl xs) (hb : bl.Pairwise (fun x y => HT.lexLt x.1 y.1 = true)) (hc : cl.Pairwise (fun x y => HT.lexLt x.1 y.1 = true)) : bl = cl :=
  lex_one hb hc fun z => by
    obtain ⟨t, n⟩ := z
    rw [c.mem, d.mem]
theorem nodup_le {α : Type} [DecidableEq α] : ∀ {xs ys : List α}, xs.Nodup → (∀ x ∈ xs, x ∈ ys) → xs.length ≤ ys.length
  | [], _, _, _ => Nat.zero_le _
  | x :: xs, ys, nd, h => by
    obtain ⟨n1, n2⟩ := List.nodup_cons.mp nd
    have m := h x List.mem_cons_self
    have := nodup_le (xs := xs) (ys := ys.erase x) n2 fun z hz => (List.mem_erase_of_ne (fun e => n1 (by rw [← e]; exact hz))).mpr (h z (List.mem_cons_of_mem _ hz))
    rw [List.length_erase_of_mem m] at this
    have := List.length_pos_of_mem m
    rw [List.length_cons]
    omega
theorem Cnt.len {bl : List (List Int × Int)} {xs ys : List (List Int)} (c : Cnt bl xs) (h : ∀ x ∈ xs, x ∈ ys) : bl.length ≤ ys.length := by
  rw [← List.length_map (f := (·.1))]
  refine nodup_le c.nd fun t ht => ?_
  obtain ⟨q, hq, rfl⟩ := List.mem_map.mp ht
  exact h _ (List.count_pos_iff.mp ((c.mem q.1 q.2).mp hq).1)
end L2
end
section
/-! All rows on a few boxes, two ways; how many lengths there are. -/
namespace BB
set_option maxRecDepth 100000
set_option Elab.async false
/-- all rows on N boxes, by doubling -/
def dblL : Nat → List (List Int)
  | 0 => [[]]
  | n + 1 => dblL n ++ (dblL n).map fun r => r ++ [(n : Int)]
theorem dbl_ways : ∀ N, N ≤ 10 → ∀ k, k ≤ N → (waysL N k).Perm ((dblL N).filter fun r => decide (r.length = k)) := by decide +kernel
theorem dbl_len (n : Nat) : (dblL n).length = 2 ^ n := by
  induction n with
  | zero => rfl
  | succ n ih => unfold dblL; rw [List.length_append, List.length_map, ih, Nat.pow_succ]; omega
theorem dbl_way {N : Nat} : ∀ {r : List Int}, r ∈ dblL N → r.Pairwise (· < ·) ∧ r.length ≤ N ∧ ∀ x ∈ r, 0 ≤ x ∧ x < (N : Int) := by
  induction N with
  | zero =>
    intro r h
    have : r = [] := by simpa [dblL] using h
    subst this
    exact ⟨.nil, Nat.le_refl _, fun x hx => by cases hx⟩
  | succ n ih =>
    intro r h
    unfold dblL at h
    rcases List.mem_append.mp h with h | h
    · obtain ⟨a, b, c⟩ := ih h
      exact ⟨a, by omega, fun x hx => by have := c x hx; omega⟩
    · obtain ⟨s, hs, rfl⟩ := List.mem_map.mp h
      obtain ⟨a, b, c⟩ := ih hs
      refine ⟨List.pairwise_append.mpr ⟨a, List.pairwise_singleton _ _, fun x hx y hy => ?_⟩, by rw [List.length_append, List.length_singleton]; omega, fun x hx => ?_⟩
      · have := c x hx
        rw [List.mem_singleton] at hy
        omega
      · rcases List.mem_append.mp hx with h | h
        · have := c x h; omega
        · rw [List.mem_singleton] at h; omega
end BB
end
section
/-! Lists of pairs held side by side. -/
namespace L2
open PySem PySem.Spec PyProof.Rows
set_option maxHeartbeats 4000000
set_option maxRecDepth 100000
set_option Elab.async false
set_option linter.unusedVariables false
section
variable {X : Cx}
end
end L2
end
section
/-! l == []. -/
namespace L2
open PySem PySem.Spec PyProof.Rows
set_option maxHeartbeats 4000000
set_option Elab.async false
set_option linter.unusedVariables false
section
variable {X : Cx}
end
end L2
end
section
/-! A list comprehension of two clauses. -/
namespace L2
open PySem PySem.Spec PyProof.Rows
set_option maxHeartbeats 4000000
set_option Elab.async false
set_option linter.unusedVariables false
section
variable {elt tg iter tg' iter' : Expr} {g0 : Comprehension} {scope : Scope} {pos : Pos} {it acc : Value} {env : Env}
theorem turn_deep : compTurn (.ListComp elt [g0, ⟨tg, iter, [], 0⟩] scope pos) 1 it acc env = (standAt iter.pos >>= fun _ => pyNext it >>= fun r => match r with
    | none => pure (.done .next)
    | some v => letOwnedTupleGo tg it v >>= fun _ => assign tg env v >>= fun _ => (eval elt env >>= fun x => call (.builtin "list.append") [acc, x] >>= fun _ => pure ()) >>= fun _ =>
        again (.compLoop (.ListComp elt [g0, ⟨tg, iter, [], 0⟩] scope pos) 1 it acc env)) := by rfl
theorem turn_out : compTurn (.ListComp elt [⟨tg, iter, [], 0⟩, ⟨tg', iter', [], 0⟩] scope pos) 0 it acc env = (standAt iter.pos >>= fun _ => pyNext it >>= fun r => match r with
    | none => pure (.done .next)
    | some v => letOwnedTupleGo tg it v >>= fun _ => assign tg env v >>= fun _ =>
        eval iter' env >>= fun x => standAt iter'.pos >>= fun _ => foldedSetIterable iter' env x >>= fun x => holding [x] (pyIter x) >>= fun i =>
          runOwn (.compStart (.ListComp elt [⟨tg, iter, [], 0⟩, ⟨tg', iter', [], 0⟩] scope pos) 1 i acc env) env >>= fun _ =>
        again (.compLoop (.ListComp elt [⟨tg, iter, [], 0⟩, ⟨tg', iter', [], 0⟩] scope pos) 0 it acc env)) := by rfl
end
section
variable {prog : Program} {w : World} {A : Around} {s : Shared} {R : Result → Shared → Prop} {elt tg iter tg' iter' : Expr} {g0 : Comprehension} {scope : Scope} {pos : Pos} {it acc : Value} {env : Env}
theorem deep_start (h0 : codeAny (model prog w) A (.compLoop (.ListComp elt [g0, ⟨tg, iter, [], 0⟩] scope pos) 1 it acc env) R s)
    (h : wpAny (model prog w) A (pyIter it) (fun i s' => codeAny (model prog w) A (.compLoop (.ListComp elt [g0, ⟨tg, iter, [], 0⟩] scope pos) 1 i acc env) R s') (fun _ _ => False) s) :
    codeAny (model prog w) A (.compStart (.ListComp elt [g0, ⟨tg, iter, [], 0⟩] scope pos) 1 it acc env) R s := by
  have two : wpAny (model prog w) A (compStart (.ListComp elt [g0, ⟨tg, iter, [], 0⟩] scope pos) 1 it acc env) (fun f s' => match f with | .done v => R (.ok v) s' | .again c => c.quiet = true ∧ codeAny (model prog w) A c R s') (fun _ _ => False) s := by
    have e : compStart (.ListComp elt [g0, ⟨tg, iter, [], 0⟩] scope pos) 1 it acc env = (ask >>= fun a => if a.params.followText "comprehension-iter-twice" = true then again (.compLoop (.ListComp elt [g0, ⟨tg, iter, [], 0⟩] scope pos) 1 it acc env) >>= pure
        else rule "comprehension.iter-twice" >>= fun _ => standAt iter.pos >>= fun _ => pyIter it >>= fun i => again (.compLoop (.ListComp elt [g0, ⟨tg, iter, [], 0⟩] scope pos) 1 i acc env)) := by rfl
    rw [e]
    refine wpAny_bind (wpAny_askSetting ?_)
    split
    · exact wpAny_bind (wpAny_pure (wpAny_pure ⟨rfl, h0⟩))
    · exact wpAny_bind (wpAny_rule (wpAny_bind (wpAny_standAt (wpAny_bind (wpAny_mono h (fun _ _ q => wpAny_pure ⟨rfl, q⟩) fun _ _ z => z.elim)))))
  refine codeAny_of_tree ?_
  show wpAny _ _ ((compStart (.ListComp elt [g0, ⟨tg, iter, [], 0⟩] scope pos) 1 it acc env).onRaise (fun x => do noteFrame x env; standAt theWindowsPlace)) _ _ s
  exact wpAny_notedAt (wpAny_mono two (fun f s' q => q) fun _ _ z => z.elim)
theorem deep_turns (J : Nat → Shared → Prop)
    (turn : ∀ n s, J n s → wpAny (model prog w) A (pyNext it) (fun r s1 => match r with
      | none => R (.ok .next) s1
      | some v => wpAny (model prog w) A (letOwnedTupleGo tg it v) (fun _ s2 => wpAny (model prog w) A (assign tg env v) (fun _ s3 =>
          wpAny (model prog w) A (eval elt env) (fun x s5 => wpAny (model prog w) A (call (.builtin "list.append") [acc, x]) (fun _ s6 => ∃ m, m < n ∧ J m s6) (fun _ _ => False) s5) (fun _ _ => False) s3) (fun _ _ => False) s2) (fun _ _ => False) s1) (fun _ _ => False) s)
    (n : Nat) (h : J n s) : codeAny (model prog w) A (.compLoop (.ListComp elt [g0, ⟨tg, iter, [], 0⟩] scope pos) 1 it acc env) R s := by
  refine codeAny_loop rfl J (fun k s' hJ => ?_) n h
  show wpAny _ A ((compTurn (.ListComp elt [g0, ⟨tg, iter, [], 0⟩] scope pos) 1 it acc env).onRaise (fun x => do noteFrame x env; theTreesLotGoes x)) _ _ s'
  refine wpAny_noted ?_
  rw [turn_deep]
  refine wpAny_bind (wpAny_standAt (wpAny_bind (wpAny_mono (turn k s' hJ) (fun r s1 q1 => ?_) fun _ _ z => z.elim)))
  cases r with
  | none => exact wpAny_pure q1
  | some v =>
    exact wpAny_bind (wpAny_mono q1 (fun _ s2 q2 => wpAny_bind (wpAny_mono q2 (fun _ s3 q3 => wpAny_bind (wpAny_bind (wpAny_mono q3 (fun x s5 q5 => wpAny_bind (wpAny_mono q5 (fun _ s6 q6 => wpAny_pure (wpAny_pure ⟨rfl, q6⟩)) fun _ _ z => z.elim)) fun _ _ z => z.elim))) fun _ _ z => z.elim)) fun _ _ z => z.elim)
theorem out_turns (hs : ∀ x, foldedSetIterable iter' env x = pure x) (J : Nat → Shared → Prop)
    (turn : ∀ n s, J n s → wpAny (model prog w) A (pyNext it) (fun r s1 => match r with
      | none => R (.ok .next) s1
      | some v => wpAny (model prog w) A (letOwnedTupleGo tg it v) (fun _ s2 => wpAny (model prog w) A (assign tg env v) (fun _ s3 =>
          wpAny (model prog w) A (eval iter' env) (fun x s4 => wpAny (model prog w) A (pyIter x) (fun i s5 =>
            codeAny (model prog w) A (.compStart (.ListComp elt [⟨tg, iter, [], 0⟩, ⟨tg', iter', [], 0⟩] scope pos) 1 i acc env) (fun r s6 => r = .ok .next ∧ ∃ m, m < n ∧ J m s6) s5) (fun _ _ => False) s4) (fun _ _ => False) s3) (fun _ _ => False) s2) (fun _ _ => False) s1) (fun _ _ => False) s)
    (n : Nat) (h : J n s) : codeAny (model prog w) A (.compLoop (.ListComp elt [⟨tg, iter, [], 0⟩, ⟨tg', iter', [], 0⟩] scope pos) 0 it acc env) R s := by
  refine codeAny_loop rfl J (fun k s' hJ => ?_) n h
  show wpAny _ A ((compTurn (.ListComp elt [⟨tg, iter, [], 0⟩, ⟨tg', iter', [], 0⟩] scope pos) 0 it acc env).onRaise (fun x => do noteFrame x env; theTreesLotGoes x)) _ _ s'
  refine wpAny_noted ?_
  rw [turn_out]
  refine wpAny_bind (wpAny_standAt (wpAny_bind (wpAny_mono (turn k s' hJ) (fun r s1 q1 => ?_) fun _ _ z => z.elim)))
  cases r with
  | none => exact wpAny_pure q1
  | some v =>
    refine wpAny_bind (wpAny_mono q1 (fun _ s2 q2 => wpAny_bind (wpAny_mono q2 (fun _ s3 q3 => wpAny_bind (wpAny_mono q3 (fun x s4 q4 => ?_) fun _ _ z => z.elim)) fun _ _ z => z.elim)) fun _ _ z => z.elim)
    refine wpAny_bind (wpAny_standAt (wpAny_bind (wpAny_of_eq (hs x) (wpAny_bind (wpAny_holding (wpAny_mono q4 (fun i s5 q5 => ?_) fun _ _ z => z.elim))))))
    refine wpAny_bind (wpAny_runOwn (codeAny_mono q5 fun r s6 q6 => ?_))
    obtain ⟨e, q6⟩ := q6
    subst e
    exact wpAny_pure ⟨rfl, q6⟩
end
/-- the inner clause: W the invariant, N what holds behind it -/
def cmpD (J : It) (g : TG) (te : TE) (N : St → Hp → Prop) (D : Addr) (σ : St) (H : Hp) : Prop := ∃ W : Nat → Nat → St → Hp → Prop, (∃ m, W 0 m σ H) ∧
  ∀ i m σ' H', W i m σ' H' → (J.stop i H' ∧ N σ' H') ∨ (J.go i H' ∧ ∀ x H2, J.yld i H' x H2 → g x σ' H2 fun σ3 H3 => te σ3 H3 fun y H5 =>
    ∃ ys, H5 D = some (.lst ys) ∧ ys.length < sizeLine ∧ ∃ m', m' < m ∧ W (i + 1) m' σ3 (upd H5 D (.lst (ys ++ [y]))))
/-- the outer one -/
def cmpO (J : It) (g : TG) (wi : TI) (g' : TG) (te : TE) (Q : VK) (D : Addr) (σ0 : St) (H1 : Hp) : Prop := ∃ W : Nat → Nat → St → Hp → Prop, (∃ m, W 0 m σ0 (upd H1 D (.lst []))) ∧
  ∀ i m σ' H', W i m σ' H' → (J.stop i H' ∧ Q (.ref D) H') ∨ (J.go i H' ∧ ∀ x H2, J.yld i H' x H2 → g x σ' H2 fun σ3 H3 => wi σ3 H3 fun J' H4 =>
    cmpD J' g' te (fun σ5 H5 => ∃ m', m' < m ∧ W (i + 1) m' σ5 H5) D σ3 H4)
def tComp2 (nt : Nat) (js : List Nat) (wi : TI) (g : TG) (wi' : TI) (g' : TG) (te : TE) : TE := fun σ H Q => wi σ H fun J H1 => ∀ D, H1 D = none → cmpO J g wi' g' te Q D (inner nt js σ) H1
theorem deep_code {Y : Cx} {elt tg iter : Expr} {g0 : Comprehension} {scope : Scope} {pos : Pos} {wi : TI} {g : TG} {te : TE} {D : Addr} (hc : Y.calm = true) (hi : PI Y tg iter wi) (hg : PG Y tg g) (he : PE Y elt te)
    (hx : Y.xe = fun _ _ => False) {pins : List (Addr × Obj)} {s : Shared} {σ : St} {H : Hp} {N : St → Hp → Prop} (I : Inv Y pins σ H s) (h : wi σ H fun J H1 => cmpD J g te N D σ H1) :
    wpAny (model Y.prog Y.w) Y.A (eval iter Y.env) (fun x s4 => wpAny (model Y.prog Y.w) Y.A (pyIter x) (fun i s5 =>
      codeAny (model Y.prog Y.w) Y.A (.compStart (.ListComp elt [g0, ⟨tg, iter, [], 0⟩] scope pos) 1 i (.ref D) Y.env) (fun r s6 => r = .ok .next ∧ ∃ σ' H', Inv Y pins σ' H' s6 ∧ N σ' H') s5) (fun _ _ => False) s4) (fun _ _ => False) s := by
  have hi' := hi pins s σ H _ I h
  rw [hx] at hi'
  refine thn hi' fun v s1 q1 => thn q1 fun itv s2 q2 => ?_
  obtain ⟨it, fp, tn, J, H2, e, I2, T, st2, f2, W, ⟨m0, w0⟩, turn⟩ := q2
  subst e
  have stat : ∀ {H' : Hp}, (∀ b ∈ fp, H' b = none) → ∀ b ∈ fp, FpOk Y pins H' b := fun hn b hb => ⟨hn b hb, (f2 b hb).2⟩
  have loop : codeAny (model Y.prog Y.w) Y.A (.compLoop (.ListComp elt [g0, ⟨tg, iter, [], 0⟩] scope pos) 1 (.ref it) (.ref D) Y.env) (fun r s6 => r = .ok .next ∧ ∃ σ' H', Inv Y pins σ' H' s6 ∧ N σ' H') s2 := by
    refine deep_turns (fun n s' => ∃ i σ' H', Inv Y pins σ' H' s' ∧ tn i s'.heap ∧ (∀ b ∈ fp, H' b = none) ∧ W i n σ' H') ?_ m0 ⟨0, _, _, I2, st2, fun b hb => (f2 b hb).1, w0⟩
    rintro n s3 ⟨i, σ3, H3, I3, st3, fr3, w3⟩
    rcases turn i n σ3 H3 w3 with ⟨stop, qn⟩ | ⟨go, step⟩
    · refine thn (T.done Y rfl rfl rfl hc i pins s3 σ3 H3 _ I3 (stat fr3) st3 stop) fun r s4 ⟨hr, I4⟩ => ?_
      subst hr
      exact ⟨rfl, σ3, H3, I4, qn⟩
    · refine thn (T.item Y rfl rfl rfl hc i pins s3 σ3 H3 _ I3 (stat fr3) st3 go) fun r s4 ⟨u, hr, h4⟩ => ?_
      subst hr
      refine thn h4 fun _ s5 ⟨x, H5, I5, r5, y5, st5, fr5⟩ => ?_
      have I5' := I5.pinned (stat fr5) (T.obj _ _ st5)
      have hg' := hg _ s5 σ3 H5 x u _ I5' r5 (step x H5 y5)
      rw [hx] at hg'
      refine thn hg' fun _ s6 ⟨σ6, H6, I6, q6⟩ => ?_
      have he' := he _ s6 σ6 H6 _ I6 q6
      rw [hx] at he'
      refine thn he' fun y s8 ⟨v8, H8, I8, r8, ys, e8, z8, k, hk, w8⟩ => ?_
      have ha := mt_append _ s8 σ6 H8 (.ref D) [v8] _ [y] (fun _ H9 => W (i + 1) k σ6 H9) I8 rfl (.cons r8 .nil) ⟨_, ys, v8, rfl, rfl, e8, z8, w8⟩
      rw [hx] at ha
      refine thn ha fun _ s9 ⟨_, H9, I9, _, w9⟩ => ?_
      refine ⟨k, hk, i + 1, σ6, H9, I9.unpinned, T.keep _ _ _ st5 fun b hb o eb => (I9.pin (b, o) (List.mem_append_right _ (List.mem_append_right _ (mem_pinsAt hb eb)))).1, fun b hb => ?_, w9⟩
      obtain ⟨o, eb, _⟩ := T.obj _ _ st5 b hb
      exact (I9.pin (b, o) (List.mem_append_right _ (List.mem_append_right _ (mem_pinsAt hb eb)))).2.1
  exact deep_start loop (T.self _ 0 _ _ _ st2 loop)
end L2
end
section
/-! Readings of a comprehension of two clauses. -/
namespace L2
open PySem PySem.Spec PyProof.Rows
set_option maxHeartbeats 4000000
set_option Elab.async false
set_option linter.unusedVariables false
/-- all stays but at a -/
def But (a : Addr) (H H' : Hp) : Prop := ∀ c o, c ≠ a → H c = some o → H' c = some o
theorem But.refl (a : Addr) (H : Hp) : But a H H := fun _ _ _ h => h
theorem But.trans {a : Addr} {H1 H2 H3 : Hp} (x : But a H1 H2) (y : But a H2 H3) : But a H1 H3 := fun c o n h => y c o n (x c o n h)
theorem But.of {a : Addr} {H H' : Hp} (s : Same H H') : But a H H' := fun c o _ h => s c o h
theorem But.upd {a : Addr} {H : Hp} (o : HO) : But a H (upd H a o) := fun c u n h => by rw [upd_ne n]; exact h
section
variable {X : Cx} {elt iter iter' : Expr} {scope : Scope} {pos : Pos} {N : List Str} {js : List Nat} {sc : Scope} {N0 : List Str} {wi wi' : TI} {te : TE} {x y z : Str} {px py pz tp : Pos} {k : Nat}
end
end L2
end
section
/-! A statement that raises nothing, where something may be raised. -/
namespace L2
open PySem PySem.Spec PyProof.Rows
set_option maxHeartbeats 4000000
set_option Elab.async false
end L2
end
section
/-! A place in the middle: what holds behind a statement is said once. -/
namespace L2
open PySem PySem.Spec PyProof.Rows
set_option maxHeartbeats 4000000
set_option Elab.async false
set_option linter.unusedVariables false
end L2
end
section
/-! Lists of tuples of tuples held side by side, where they are the same. -/
namespace L2
open PySem PySem.Spec PyProof.Rows
set_option maxHeartbeats 4000000
set_option maxRecDepth 100000
set_option Elab.async false
set_option linter.unusedVariables false
/-- the same, at most n tuples deep -/
def De (H : Hp) : Nat → V → V → Prop
  | 0, x, y => ∃ i : Int, x = .int i ∧ y = .int i
  | n + 1, x, y => De H n x y ∨ ∃ (a b : Addr) (xs ys : List V), x = .ref a ∧ y = .ref b ∧ H a = some (.tup xs) ∧ H b = some (.tup ys) ∧ xs.length = ys.length ∧ ∀ (j : Nat) (u v : V), xs[j]? = some u → ys[j]? = some v → De H n u v
section
variable {X : Cx}
theorem de_eqAt {pins : List (Addr × Obj)} {s : Shared} {σ : St} {H : Hp} (I : Inv X pins σ H s) : ∀ (n : Nat) {A : Around} {x y : V} {u v : Value}, A.units + n < cLine → De H n x y → RelV x u → RelV y v → SeqAt.EqAt A s u v true
  | 0, A, x, y, u, v, _, d, r1, r2 => by
    obtain ⟨i, rfl, rfl⟩ := d
    obtain ⟨t, rfl⟩ := (show ∃ t, u = Value.int i t from r1)
    obtain ⟨t', rfl⟩ := (show ∃ t, v = Value.int i t from r2)
    have := SeqAt.EqAt.int_int (A := A) (s := s) i t i t'
    rw [beq_self_eq_true] at this
    exact this
  | n + 1, A, x, y, u, v, hu, d, r1, r2 => by
    rcases d with d | ⟨a, b, xs, ys, rfl, rfl, ha, hb, hl, hd⟩
    · exact de_eqAt I n (by omega) d r1 r2
    cases (show u = Value.ref a from r1)
    cases (show v = Value.ref b from r2)
    by_cases e : a = b
    · subst e
      exact SeqAt.EqAt.same _
    obtain ⟨_, i1, s1, q1⟩ := I.hok a _ ha
    obtain ⟨_, i2, s2, q2⟩ := I.hok b _ hb
    have z1 := s1.length
    have z2 := s2.length
    have e3 := SeqAt.RcAt.tuples (A := A) (s := s) (e := fun _ => true) (show s.heap.IsTuple a i1.toArray from q1) (show s.heap.IsTuple b i2.toArray from q2) (by omega) fun j h1 h2 => by
      simp only [List.size_toArray] at h1 h2
      have g1 := List.getElem?_eq_getElem (show j < xs.length by omega)
      have g2 := List.getElem?_eq_getElem (show j < ys.length by omega)
      obtain ⟨w1, f1, p1⟩ := s1.get g1
      obtain ⟨w2, f2, p2⟩ := s2.get g2
      have a1 : i1.toArray[j]'(by simpa using h1) = w1 := by
        have := (List.getElem?_eq_some_iff.mp f1).2
        simpa using this
      have a2 : i2.toArray[j]'(by simpa using h2) = w2 := by
        have := (List.getElem?_eq_some_iff.mp f2).2
        simpa using this
      rw [a1, a2]
      exact de_eqAt I n (A := A.in1) (by show A.units + 1 + n < cLine; omega) (hd j _ _ g1 g2) p1 p2
    refine SeqAt.EqAt.of_refs e ?_
    have e4 : ((List.range (min i1.toArray.size i2.toArray.size)).all (fun _ => true) && i1.toArray.size == i2.toArray.size) = true := by
      simp only [List.size_toArray]
      rw [← z1, ← z2, hl, beq_self_eq_true, Bool.and_true]
      exact List.all_eq_true.mpr fun _ _ => rfl
    rw [e4] at e3
    exact e3
end
end L2
end
section
/-! for k in d: where each key lies is known ahead. -/
namespace L2
open PySem PySem.Spec PySem.W PyProof.Rows
set_option maxHeartbeats 4000000
set_option maxRecDepth 100000
set_option Elab.async false
set_option linter.unusedVariables false
section
variable {X : Cx} {tg : Expr}
end
end L2
end
section
/-! Lists of tuples of tuples held side by side: they are not unlike. -/
namespace L2
open PySem PySem.Spec PyProof.Rows
set_option maxHeartbeats 4000000
set_option maxRecDepth 100000
set_option Elab.async false
set_option linter.unusedVariables false
section
variable {X : Cx}
def rNeD (K : PySem.W.Frag) (n : Nat) : R2 := fun x y H Q => ∃ (a b : Addr) (xs ys : List V), x = .ref a ∧ y = .ref b ∧ SqL K H a xs ∧ SqL K H b ys ∧ xs.length = ys.length ∧ (∀ (j : Nat) (u v : V), xs[j]? = some u → ys[j]? = some v → De H n u v) ∧ Q (.bl false) H
theorem op_neD {n : Nat} (hu : X.A.units + 1 + n < cLine) : OpR X (compareOp .NotEq) (rNeD X.K n) := by
  intro pins s σ H x y v u Q I rx ry h
  obtain ⟨a, b, xs, ys, rfl, rfl, ha, hb, hl, hd, q⟩ := h
  cases rx
  cases ry
  obtain ⟨its, r1, p1, _⟩ := I.list ha
  obtain ⟨its2, r2, p2, _⟩ := I.list hb
  have l1 := r1.length
  have l2 := r2.length
  refine of_rcne' (SeqAt.RcNeAt.lists (e := fun _ => true) p1.isList p2.isList (by simp only [List.size_toArray]; omega) (by omega) (fun j h1 h2 => ?_)) ?_
  · simp only [List.size_toArray] at h1 h2
    have g1 := List.getElem?_eq_getElem (show j < xs.length by omega)
    have g2 := List.getElem?_eq_getElem (show j < ys.length by omega)
    obtain ⟨w1, f1, q1⟩ := r1.get g1
    obtain ⟨w2, f2, q2⟩ := r2.get g2
    have a1 : its.toArray[j]'(by simpa using h1) = w1 := by
      have := (List.getElem?_eq_some_iff.mp f1).2
      simpa using this
    have a2 : its2.toArray[j]'(by simpa using h2) = w2 := by
      have := (List.getElem?_eq_some_iff.mp f2).2
      simpa using this
    rw [a1, a2]
    exact de_eqAt I n (A := X.A.in1) (by show X.A.units + 1 + n < cLine; exact hu) (hd j _ _ g1 g2) q1 q2
  · rw [show (List.range its.toArray.size).all (fun _ => true) = true from List.all_eq_true.mpr fun _ _ => rfl]
    exact ⟨.bl false, H, I, rfl, q⟩
end
end L2
end
section
/-! A comprehension of two clauses that makes new tuples. -/
namespace L2
open PySem PySem.Spec PyProof.Rows
set_option maxHeartbeats 4000000
set_option Elab.async false
set_option linter.unusedVariables false
/-- a list of tuples -/
def TL (H : Hp) (D : Addr) (fs : List (List V)) : Prop := ∃ ys, H D = some (.lst ys) ∧ ys.length = fs.length ∧ ∀ (j : Nat) (y : V), ys[j]? = some y → ∃ p, y = .ref p ∧ H p = some (.tup (fs.getD j []))
theorem TL.same {H H' : Hp} {D : Addr} {fs : List (List V)} (h : TL H D fs) (s : Same H H') : TL H' D fs := by
  obtain ⟨ys, hd, hl, hy⟩ := h
  exact ⟨ys, s _ _ hd, hl, fun j y e => by obtain ⟨p, e1, e2⟩ := hy j y e; exact ⟨p, e1, s _ _ e2⟩⟩
theorem TL.nil {H : Hp} {D : Addr} (h : H D = some (.lst [])) : TL H D [] := ⟨[], h, rfl, fun j y e => by cases e⟩
theorem TL.push {H : Hp} {D : Addr} {fs : List (List V)} {ys : List V} {p : Addr} {x : List V} (hd : H D = some (.lst ys)) (hl : ys.length = fs.length) (hy : ∀ (j : Nat) (y : V), ys[j]? = some y → ∃ p, y = .ref p ∧ H p = some (.tup (fs.getD j []))) (hp : H p = some (.tup x)) : TL (upd H D (.lst (ys ++ [.ref p]))) D (fs ++ [x]) := by
  refine ⟨_, upd_same, by simp [hl], fun j u hu => ?_⟩
  by_cases c : j < ys.length
  · rw [List.getElem?_append_left c] at hu
    obtain ⟨p', e1, e2⟩ := hy j u hu
    refine ⟨p', e1, ?_⟩
    rw [upd_ne (ne_of e2 hd (by intro z; cases z)), e2, List.getD_eq_getElem?_getD, List.getD_eq_getElem?_getD, List.getElem?_append_left (by omega)]
  · have ej : j = ys.length := by
      have := (List.getElem?_eq_some_iff.mp hu).1
      rw [List.length_append, List.length_singleton] at this
      omega
    subst ej
    rw [List.getElem?_append_right (by omega), Nat.sub_self] at hu
    have eu : u = .ref p := by simpa using hu.symm
    refine ⟨p, eu, ?_⟩
    rw [upd_ne (ne_of hp hd (by intro z; cases z)), hp, List.getD_eq_getElem?_getD, List.getElem?_append_right (by omega), hl, Nat.sub_self]
    rfl
theorem deep_tups {J : It} {g : TG} {te : TE} {N : St → Hp → Prop} {D : Addr} {H1 : Hp} {σ0 : St} (n : Nat) (f : Nat → List V) (pre : List (List V)) (Sg : St → Prop) (itm : Nat → Hp → V → Prop) (hd : TL H1 D pre) (hn : pre.length + n ≤ sizeLine) (s0 : Sg σ0)
    (items : ∀ i H, But D H1 H → (i < n → J.go i H ∧ ∀ x H2, J.yld i H x H2 → Same H H2 ∧ itm i H2 x) ∧ (n ≤ i → J.stop i H))
    (step : ∀ i x σ' H, i < n → But D H1 H → itm i H x → Sg σ' → ∀ R : St → V → Hp → Prop, (∀ σ3 p H5, Sg σ3 → Same H H5 → H5 p = some (.tup (f i)) → R σ3 (.ref p) H5) → g x σ' H fun σ3 H3 => te σ3 H3 (R σ3))
    (fin : ∀ σ' H', Sg σ' → But D H1 H' → TL H' D (pre ++ (List.range n).map f) → N σ' H') : cmpD J g te N D σ0 H1 := by
  refine ⟨fun i m σ H => m = n - i ∧ i ≤ n ∧ Sg σ ∧ But D H1 H ∧ TL H D (pre ++ (List.range i).map f), ⟨n, by omega, Nat.zero_le _, s0, But.refl _ _, by simpa using hd⟩, ?_⟩
  rintro i m σ H ⟨rfl, hi, hs, sm, hd'⟩
  by_cases hlt : i < n
  · obtain ⟨go, yl⟩ := (items i H sm).1 hlt
    refine .inr ⟨go, fun x H2 y => ?_⟩
    obtain ⟨s2, im⟩ := yl x H2 y
    refine step i x σ H2 hlt (sm.trans (But.of s2)) im hs _ fun σ3 p H5 g3 s5 ep => ?_
    obtain ⟨ys, e1, e2, e3⟩ := hd'.same (s2.trans s5)
    refine ⟨ys, e1, by rw [e2, List.length_append, List.length_map, List.length_range]; omega, n - (i + 1), by omega, rfl, by omega, g3, ((sm.trans (But.of s2)).trans (But.of s5)).trans (But.upd _), ?_⟩
    have := TL.push e1 e2 e3 ep
    rw [List.append_assoc] at this
    rw [List.range_succ, List.map_append]
    exact this
  · have e : i = n := by omega
    subst e
    exact .inl ⟨(items i H sm).2 (Nat.le_refl _), fin σ H hs sm hd'⟩
theorem out_tups {J : It} {g g' : TG} {wi : TI} {te : TE} {Q : VK} {D : Addr} {H1 : Hp} {σ0 : St} (n : Nat) (f : Nat → List (List V)) (Sg : St → Prop) (itm : Nat → Hp → V → Prop) (hn : ∀ i, i ≤ n → ((List.range i).flatMap f).length ≤ sizeLine) (hD : H1 D = none) (s0 : Sg σ0)
    (items : ∀ i H, Same H1 H → (i < n → J.go i H ∧ ∀ x H2, J.yld i H x H2 → Same H H2 ∧ itm i H2 x) ∧ (n ≤ i → J.stop i H))
    (step : ∀ i x σ' H pre, i < n → Same H1 H → itm i H x → Sg σ' → TL H D pre → pre.length + (f i).length ≤ sizeLine → ∀ N : St → Hp → Prop, (∀ σ3 H5, Sg σ3 → But D H H5 → TL H5 D (pre ++ f i) → N σ3 H5) → g x σ' H fun σ3 H3 => wi σ3 H3 fun J' H4 => cmpD J' g' te N D σ3 H4)
    (fin : ∀ H', Same H1 H' → TL H' D ((List.range n).flatMap f) → Q (.ref D) H') : cmpO J g wi g' te Q D σ0 H1 := by
  refine ⟨fun i m σ H => m = n - i ∧ i ≤ n ∧ Sg σ ∧ Same H1 H ∧ TL H D ((List.range i).flatMap f), ⟨n, by omega, Nat.zero_le _, s0, (Same.refl H1).upd_free hD _, TL.nil upd_same⟩, ?_⟩
  rintro i m σ H ⟨rfl, hi, hs, sm, hd⟩
  by_cases hlt : i < n
  · obtain ⟨go, yl⟩ := (items i H sm).1 hlt
    refine .inr ⟨go, fun x H2 y => ?_⟩
    obtain ⟨s2, im⟩ := yl x H2 y
    have l := hn (i + 1) hlt
    rw [List.range_succ, List.flatMap_append, List.length_append, List.flatMap_singleton] at l
    refine step i x σ H2 _ hlt (sm.trans s2) im hs (hd.same s2) l _ fun σ3 H5 g3 b5 h5 => ?_
    refine ⟨n - (i + 1), by omega, rfl, by omega, g3, fun b o e => ?_, by rw [List.range_succ, List.flatMap_append, List.flatMap_singleton]; exact h5⟩
    exact b5 _ _ (ne_of_none e hD) (s2 _ _ (sm _ _ e))
  · have e : i = n := by omega
    subst e
    exact .inl ⟨(items i H sm).2 (Nat.le_refl _), fin H sm hd⟩
end L2
end
section
/-! name = [comprehension of two clauses]. -/
namespace L2
open PySem PySem.Spec PyProof.Rows
set_option maxHeartbeats 4000000
set_option Elab.async false
set_option linter.unusedVariables false
theorem ps_compO {X : Cx} {elt tg iter tg' iter' : Expr} {scope : Scope} {pos pos' spos : Pos} {N : List Str} {nt : Nat} {js : List Nat} {sc : Scope} {N0 : List Str} {wi wi' : TI} {g g' : TG} {te : TE} {ii : Nat} {nm : Str}
    (hNd : X.N.Nodup) (hii : X.N[ii]? = some nm) (hloc : Loc X.env.scope nm)
    (hc : X.calm = true) (hsc : X.env.scope = sc) (hN : X.N = N0) (B : Blk sc N0 N nt js scope) (hi : PI X tg iter wi)
    (hg : ∀ cl C s H fp, PG (blk X N scope cl C s H fp) tg g) (hi' : ∀ cl C s H fp, PI (blk X N scope cl C s H fp) tg' iter' wi') (hg' : ∀ cl C s H fp, PG (blk X N scope cl C s H fp) tg' g') (he : ∀ cl C s H fp, PE (blk X N scope cl C s H fp) elt te)
    (hsw : swapsWith (.ListComp elt [⟨tg, iter, [], 0⟩, ⟨tg', iter', [], 0⟩] scope pos) (some (.Name nm pos')) spos.line X.env = pure true := by rfl)
    (hf : X.fn nm = true ∨ X.env.scope.names.lookup nm = some .local := by first | exact .inl rfl | exact .inr rfl | assumption)
    (hs : ∀ x, foldedSetIterable iter X.env x = pure x := by intro _; rfl) (hs' : ∀ env x, foldedSetIterable iter' env x = pure x := by intro _ _; rfl) : PS X (.Assign [.Name nm pos'] (.ListComp elt [⟨tg, iter, [], 0⟩, ⟨tg', iter', [], 0⟩] scope pos) spos) (tSetC ii (tComp2 nt js wi g wi' g' te)) := by
  subst hsc hN
  intro pins s σ H D I h
  obtain ⟨cl, hcl, c1, c2⟩ := clos_of (env := X.env) (scope := scope) fun y hy hk => I.ok.has y.1 (B.cap y hy hk)
  rw [PySem.exec_Assign_Name_used _ _ _ _ hsw]
  refine wpAny_bind (wpAny_standAt (wpAny_bind ?_))
  show wpAny _ _ (comprehension _ scope X.env _ _ _ _ (some (assign (.Name nm pos') X.env)) >>= _) _ _ _
  refine wpAny_bind (thn (Q := fun _ s' => ∃ σ' H', Inv X pins σ' H' s' ∧ D.nx σ' H') ?_ fun _ s9 q9 => wpAny_pure (wpAny_pure q9))
  refine wpAny_comprehension_free (use := some (assign (.Name nm pos') X.env)) rfl hs hcl B.kind B.loc (thn (hi pins s σ H _ I h) fun v s1 q1 => thn q1 fun itv s2 q2 => ?_)
  obtain ⟨it, fp, tn, J, H2, e, I2, T, st2, f2, q2⟩ := q2
  subst e
  obtain ⟨W, ⟨m0, w0⟩, turn⟩ := q2 s2.heap.objs.size (I2.hok.fresh (Nat.le_refl _))
  have hlt : ∀ b ∈ fp, b < s2.heap.objs.size := fun b hb => by
    obtain ⟨o, eo, _⟩ := T.obj _ _ st2 b hb
    exact Heap.lt_size eo
  refine wpAny_newObj_type (wpAny_newFunctionEnv B.nocell (by intro y hy; simp at hy) (fun h1 hns hsb => ?_) B.kind)
  dsimp only at hns hsb ⊢
  have hsz : (s2.heap.push { cls := .type "list", dict := none, data := .seq ([] : List Value).toArray }).objs.size = s2.heap.objs.size + 1 := by rw [Heap.size_push]
  have old : ∀ b o, s2.heap.get? b = some o → h1.get? b = some o := fun b o eb => hsb.extBut b o (by rw [hsz]; exact Nat.ne_of_lt (Nat.lt_succ_of_lt (Heap.lt_size eb))) (Heap.get?_push_of_some _ (Heap.get?_push_of_some _ eb))
  have hD : h1.get? s2.heap.objs.size = some { cls := .type "list", data := .seq ([] : List Value).toArray 0 } := hsb.extBut _ _ (by rw [hsz]; exact Nat.ne_of_lt (Nat.lt_succ_self _)) (Heap.get?_push_of_some _ (Heap.get?_push_size _ rfl))
  rw [hsz] at hns
  have I3 := blk_start (cl := cl) (fp := fp) (tk := s2.toks + ([] : List (Str × Value)).length) I2 B c1 c2 f2 hlt old (show h1.Ns (s2.heap.objs.size + 1) fun _ => none from hns) hD
  have stat : ∀ {H' : Hp}, (∀ b ∈ fp, H' b = none) → ∀ b ∈ fp, FpOk (blk X N scope cl (s2.heap.objs.size + 1) s2 H2 fp) [] H' b := fun {H'} hn b hb =>
    ⟨hn b hb, Nat.ne_of_lt (Nat.lt_succ_of_lt (hlt b hb)), fun z => (List.mem_cons.mp (I2.stkSub b z)).elim (f2 b hb).2.1 (f2 b hb).2.2.1, .inl hb, fun x c ec => (f2 b hb).2.2.2.2.1 x c (c1 x c ec), fun p hp => absurd (show p ∈ ([] : List (Addr × Obj)) from hp) (by simp)⟩
  have fin : ∀ {i : Nat} {σ' : St} {H' : Hp} {s' : Shared}, Inv (blk X N scope cl (s2.heap.objs.size + 1) s2 H2 fp) [] σ' H' s' → D.nx (σ.set ii (some (.ref s2.heap.objs.size))) H' →
      compPost (model X.prog X.w) X.A X.xe (some (assign (.Name nm pos') X.env)) (fun _ s' => ∃ σ' H', Inv X pins σ' H' s' ∧ D.nx σ' H') (.ref s2.heap.objs.size) (s2.heap.objs.size + 1) (.ok .next) s' := fun {i σ' H' s'} Ib q => by
    obtain ⟨m, hn, _⟩ := id Ib.loc
    have I4 : Inv X pins σ H' s' := I2.call' Ib.os Ib.base Ib.hok Ib.bare fun b hb => ⟨(f2 b hb).2.2.2.1, (f2 b hb).2.1, (f2 b hb).2.2.2.2.1, (f2 b hb).2.2.2.2.2⟩
    obtain ⟨g0, g1, g2, g3, g4, g5⟩ := I2.fpOk (H' := H') (Nat.le_succ _) Ib.free
    show wpAny _ _ (assign (.Name nm pos') X.env (.ref s2.heap.objs.size)) _ _ _
    refine wpAny_bind (wpAny_standAt (wpAny_bindName (store_ok2 I4 hNd hii hloc (v := .ref s2.heap.objs.size) rfl (fun s5 I5 ⟨a, sb, ha⟩ => ?_) hf)))
    have na : s2.heap.objs.size + 1 ≠ a := by
      rcases ha with rfl | ha
      · exact g1
      · exact fun z => g4 _ _ ha z.symm
    refine ⟨m, hn.sameBut sb na, fun h'' hs'' => ?_⟩
    exact ⟨_, H', I5.turned (t' := s5.toks) (fun b o hb eb => hs''.extBut b o hb eb) g0 g1 g3 g4 g5, q⟩
  have loop : codeAny (model X.prog X.w) X.A (.compLoop (.ListComp elt [⟨tg, iter, [], 0⟩, ⟨tg', iter', [], 0⟩] scope pos) 0 (.ref it) (.ref s2.heap.objs.size) (compEnvC scope cl (s2.heap.objs.size + 1) X.env))
      (compPost (model X.prog X.w) X.A X.xe (some (assign (.Name nm pos') X.env)) (fun _ s' => ∃ σ' H', Inv X pins σ' H' s' ∧ D.nx σ' H') (.ref s2.heap.objs.size) (s2.heap.objs.size + 1)) { s2 with heap := h1, toks := s2.toks + ([] : List (Str × Value)).length } := by
    refine out_turns (hs' _) (fun n s' => ∃ i σ' H', Inv (blk X N scope cl (s2.heap.objs.size + 1) s2 H2 fp) [] σ' H' s' ∧ tn i s'.heap ∧ (∀ b ∈ fp, H' b = none) ∧ W i n σ' H') ?_ m0
      ⟨0, _, _, I3, T.keep _ _ _ st2 fun b _ o eb => old b o eb, fun b hb => ?_, w0⟩
    · rintro n s3 ⟨i, σ3, H3, J3, st3, fr3, w3⟩
      rcases turn i n σ3 H3 w3 with ⟨stop, qn⟩ | ⟨go, step⟩
      · refine thn (T.done (blk X N scope cl (s2.heap.objs.size + 1) s2 H2 fp) rfl rfl rfl hc i [] s3 σ3 H3 _ J3 (stat fr3) st3 stop) fun r s4 ⟨hr, I4⟩ => ?_
        subst hr
        exact fin (i := i) I4 qn
      · refine thn (T.item (blk X N scope cl (s2.heap.objs.size + 1) s2 H2 fp) rfl rfl rfl hc i [] s3 σ3 H3 _ J3 (stat fr3) st3 go) fun r s4 ⟨u, hr, h4⟩ => ?_
        subst hr
        refine thn h4 fun _ s5 ⟨x, H5, I5, r5, y5, st5, fr5⟩ => ?_
        have I5' := I5.pinned (stat fr5) (T.obj _ _ st5)
        refine thn (hg _ _ _ _ _ _ s5 σ3 H5 x u _ I5' r5 (step x H5 y5)) fun _ s6 ⟨σ6, H6, I6, q6⟩ => ?_
        refine thn (deep_code (Y := blk X N scope cl (s2.heap.objs.size + 1) s2 H2 fp) (g0 := ⟨tg, iter, [], 0⟩) (scope := scope) (pos := pos) hc (hi' _ _ _ _ _) (hg' _ _ _ _ _) (he _ _ _ _ _) rfl I6 q6) fun x4 s7 q7 => thn q7 fun i4 s8 q8 => codeAny_mono q8 fun r s9 ⟨hr, σ9, H9, I9, k, hk, w9⟩ => ⟨hr, k, hk, i + 1, σ9, H9, I9.unpinned, T.keep _ _ _ st5 fun b hb o eb => (I9.pin (b, o) (List.mem_append_right _ (List.mem_append_right _ (mem_pinsAt hb eb)))).1, fun b hb => ?_, w9⟩
        obtain ⟨o, eb, _⟩ := T.obj _ _ st5 b hb
        exact (I9.pin (b, o) (List.mem_append_right _ (List.mem_append_right _ (mem_pinsAt hb eb)))).2.1
    · show upd H2 _ _ b = none
      rw [upd_ne (Nat.ne_of_lt (hlt b hb))]
      exact (f2 b hb).1
  rw [hsz]
  exact codeAny_compStart_list loop (T.self _ 0 _ _ _ (T.keep _ _ _ st2 fun b _ o eb => old b o eb) loop)
theorem pt_truthW {X : Cx} {a : Expr} {ta : TE} (K : PySem.W.Frag) (hK : X.K = K) (ha : PE X a ta) (he : ∀ whole, isTrue a X.env whole = (do let v ← whole; standAt a.pos; holding [v] (truthy v))) : PT X a (fun σ H Q => ta σ H fun x H' => ∃ k, TruV K x H' k ∧ Q k H') := by
  subst hK
  exact pt_truth ha he
theorem op_catW {X : Cx} (K : PySem.W.Frag) (hK : X.K = K) : OpR X (binaryOp .Add) (rCatA K) := by
  subst hK
  exact op_catA
section
variable {X : Cx} {elt iter iter' : Expr} {scope : Scope} {pos pos' spos : Pos} {N : List Str} {js : List Nat} {sc : Scope} {N0 : List Str} {wi wi' : TI} {te : TE} {x z nm : Str} {px pz : Pos} {ii : Nat}
theorem ps_compO1 (hNd : X.N.Nodup) (hii : X.N[ii]? = some nm) (hloc : Loc X.env.scope nm) (hc : X.calm = true) (hsc : X.env.scope = sc) (hN : X.N = N0) (B : Blk sc N0 (x :: z :: N) 2 js scope) (hx : scope.names.lookup x = some .local) (hz : scope.names.lookup z = some .local) (hi : PI X (.Name x px) iter wi)
    (hi' : ∀ cl C s H fp, PI (blk X (x :: z :: N) scope cl C s H fp) (.Name z pz) iter' wi') (he : ∀ cl C s H fp, PE (blk X (x :: z :: N) scope cl C s H fp) elt te)
    (hsw : swapsWith (.ListComp elt [⟨.Name x px, iter, [], 0⟩, ⟨.Name z pz, iter', [], 0⟩] scope pos) (some (.Name nm pos')) spos.line X.env = pure true := by rfl)
    (hf : X.fn nm = true ∨ X.env.scope.names.lookup nm = some .local := by first | exact .inl rfl | exact .inr rfl | assumption)
    (hs : ∀ x, foldedSetIterable iter X.env x = pure x := by intro _; rfl) (hs' : ∀ env x, foldedSetIterable iter' env x = pure x := by intro _ _; rfl) :
    PS X (.Assign [.Name nm pos'] (.ListComp elt [⟨.Name x px, iter, [], 0⟩, ⟨.Name z pz, iter', [], 0⟩] scope pos) spos) (tSetC ii (tComp2 2 js wi (gName 0) wi' (gName 1) te)) :=
  ps_compO hNd hii hloc hc hsc hN B hi (fun cl C s H fp => pg_name (i := 0) B.nd rfl (.inl (blk_loc hx)) (.inr (blk_loc hx))) hi' (fun cl C s H fp => pg_name (i := 1) B.nd rfl (.inl (blk_loc hz)) (.inr (blk_loc hz))) he hsw hf hs hs'
end
end L2
end
section
/-! Sorting a list of any length whose keys are all unlike: looking for a place by leaps. -/
namespace L2
open PySem PySem.W PyProof.Rows
set_option maxHeartbeats 4000000
set_option maxRecDepth 100000
set_option Elab.async false
set_option linter.unusedVariables false
noncomputable def leap : Bool → Keyed → Array Keyed → Nat → Nat → Nat → StateT SortSt Sem (Option Nat) := sortPriv% PySem.Builtin.gallop
noncomputable def joinL : Array Keyed → Array Keyed → StateT SortSt Sem (Array Keyed) := sortPriv% PySem.Builtin.mergeLo
noncomputable def joinR : Array Keyed → Array Keyed → StateT SortSt Sem (Array Keyed) := sortPriv% PySem.Builtin.mergeHi
/-- any two of the good ones are held against one another by r -/
def Asks (prog : Program) (w : World) (A : Around) (s : Shared) (kd : SortKind) (G : Keyed → Prop) (r : Keyed → Int) : Prop :=
  ∀ (E : Value → Shared → Prop) (x y : Keyed) (Q : Option Bool → SortSt → Prop) (st : SortSt), G x → G y → kindOf st = kd → Q (some (decide (r x < r y))) st → wpS (model prog w) A E s (lt' x y) Q st
/-- rising -/
abbrev Ris (r : Keyed → Int) (l : List Keyed) : Prop := l.Pairwise fun x y => r x < r y
theorem thr {r : Keyed → Int} {k : Int} : ∀ {l : List Keyed}, Ris r l → (∀ x ∈ l, r x ≠ k) → ∃ t, t ≤ l.length ∧ (∀ x ∈ l.take t, r x < k) ∧ ∀ x ∈ l.drop t, k < r x
  | [], _, _ => ⟨0, Nat.le_refl _, by simp, by simp⟩
  | a :: l, h, ne => by
    obtain ⟨h1, h2⟩ := List.pairwise_cons.mp h
    by_cases c : r a < k
    · obtain ⟨t, t1, t2, t3⟩ := thr h2 fun x hx => ne x (List.mem_cons_of_mem _ hx)
      refine ⟨t + 1, by simpa using t1, fun x hx => ?_, by simpa using t3⟩
      rw [List.take_succ_cons] at hx
      rcases List.mem_cons.mp hx with rfl | hx
      · exact c
      · exact t2 x hx
    · have := ne a List.mem_cons_self
      refine ⟨0, Nat.zero_le _, by simp, fun x hx => ?_⟩
      rw [List.drop_zero] at hx
      rcases List.mem_cons.mp hx with rfl | hx
      · omega
      · have := h1 x hx
        omega
section
variable {prog : Program} {w : World} {A : Around} {E : Value → Shared → Prop} {s : Shared} {kd : SortKind} {G : Keyed → Prop} {r : Keyed → Int} {st : SortSt}
theorem elem_is {α : Type} {a : Array Keyed} {i : Nat} {x : Keyed} {Q : Keyed → SortSt → Prop} (h : a[i]? = some x) (q : Q x st) : wpS (model prog w) A E s (elem' a i) Q st := by
  rw [elem'_eq, h]
  exact wpS_pure q
theorem beyond_is (ask : Asks prog w A s kd G r) (hk : kindOf st = kd) {left : Bool} {key x : Keyed} {arr : Array Keyed} {i : Nat} {Q : Option Bool → SortSt → Prop} (hx : arr[i]? = some x) (gx : G x) (gk : G key) (ne : r x ≠ r key) (q : Q (some (decide (r x < r key))) st) :
    wpS (model prog w) A E s (elem' arr i >>= fun x => if left = true then lt' x key else lt' key x >>= fun b => pure (b.map fun c => !c)) Q st := by
  refine wpS_bind (elem_is (α := Unit) hx ?_)
  cases left with
  | true => exact ask _ _ _ _ _ gx gk hk q
  | false =>
    rw [if_neg Bool.false_ne_true]
    refine wpS_bind (ask _ _ _ _ _ gk gx hk (wpS_pure ?_))
    have e : (!decide (r key < r x)) = decide (r x < r key) := by
      by_cases c : r x < r key
      · rw [decide_eq_true c, decide_eq_false (by omega)]; rfl
      · rw [decide_eq_false c, decide_eq_true (by omega)]; rfl
    show Q (some (!decide (r key < r x))) st
    rw [e]
    exact q
theorem leap_is (ask : Asks prog w A s kd G r) (hk : kindOf st = kd) {left : Bool} {key : Keyed} {arr : Array Keyed} {base n hint : Nat} {l : List Keyed} {Q : Option Nat → SortSt → Prop} (hl : ∀ i, i < n → arr[base + i]? = l[i]?) (len : l.length = n) (gl : ∀ x ∈ l, G x) (gk : G key) (ri : Ris r l)
    (ne : ∀ x ∈ l, r x ≠ r key) (hh : hint < n) (q : ∀ t, t ≤ n → (∀ x ∈ l.take t, r x < r key) → (∀ x ∈ l.drop t, r key < r x) → Q (some t) st) : wpS (model prog w) A E s (leap left key arr base n hint) Q st := by
  obtain ⟨t, t1, t2, t3⟩ := thr ri ne
  rw [len] at t1
  have bey : ∀ i (E' : Value → Shared → Prop) (Q' : Option Bool → SortSt → Prop), i < n → Q' (some (decide (i < t))) st → wpS (model prog w) A E' s (elem' arr (base + i) >>= fun x => if left = true then lt' x key else lt' key x >>= fun b => pure (b.map fun c => !c)) Q' st := fun i E' Q' hi q' => by
    have hi' : i < l.length := by omega
    have hx : arr[base + i]? = some l[i] := by rw [hl i hi, List.getElem?_eq_getElem hi']
    refine beyond_is ask hk hx (gl _ (List.getElem_mem _)) gk (ne _ (List.getElem_mem _)) ?_
    have e : decide (r l[i] < r key) = decide (i < t) := by
      by_cases c : i < t
      · rw [decide_eq_true c]
        exact decide_eq_true (t2 _ (List.mem_take_iff_getElem.mpr ⟨i, by omega, rfl⟩))
      · rw [decide_eq_false c]
        have : l[i] ∈ l.drop t := List.mem_drop_iff_getElem.mpr ⟨i - t, by omega, by congr 1; omega⟩
        have := t3 _ this
        exact decide_eq_false (by omega)
    rw [e]
    exact q'
  have last : ∀ (lo hi : Nat), lo ≤ t → t ≤ hi → hi ≤ n → wpS (model prog w) A E s (forIn [:n] ((none, lo, hi) : Option (Option Nat) × Nat × Nat) fun (x : Nat) __s => if __s.snd.fst ≥ __s.snd.snd then pure (ForInStep.done (none, __s.snd.fst, __s.snd.snd)) else
      (elem' arr (base + (__s.snd.fst + (__s.snd.snd - __s.snd.fst) / 2)) >>= fun x => if left = true then lt' x key else lt' key x >>= fun b => pure (b.map fun c => !c)) >>= fun y => match y with
        | some more => if more = true then pure (ForInStep.yield (none, __s.snd.fst + (__s.snd.snd - __s.snd.fst) / 2 + 1, __s.snd.snd)) else pure (ForInStep.yield (none, __s.snd.fst, __s.snd.fst + (__s.snd.snd - __s.snd.fst) / 2))
        | _ => pure (ForInStep.done (some none, __s.snd.fst, __s.snd.snd))) (fun c st' => st' = st ∧ c.1 = none ∧ c.2.2 = t) st := fun lo hi h1 h2 h3 => by
    refine wpS_forRange (I := fun i c st' => st' = st ∧ ∃ lo hi, c = (none, lo, hi) ∧ lo ≤ t ∧ t ≤ hi ∧ hi ≤ n ∧ hi - lo + i ≤ n) ?_ ?_ ⟨rfl, lo, hi, rfl, h1, h2, h3, by omega⟩
    · rintro i c st' _ hi ⟨rfl, lo, hi', rfl, a1, a2, a3, a4⟩
      dsimp only
      by_cases c : lo ≥ hi'
      · rw [if_pos c]
        exact wpS_pure ⟨rfl, rfl, by show hi' = t; omega⟩
      · rw [if_neg c]
        refine wpS_bind (bey _ _ _ (by omega) ?_)
        by_cases c2 : lo + (hi' - lo) / 2 < t
        · rw [decide_eq_true c2]
          exact wpS_pure ⟨rfl, _, _, rfl, by omega, a2, a3, by omega⟩
        · rw [decide_eq_false c2]
          exact wpS_pure ⟨rfl, _, _, rfl, a1, by omega, by omega, by omega⟩
    · rintro c st' ⟨rfl, lo, hi', rfl, a1, a2, a3, a4⟩
      refine ⟨rfl, rfl, ?_⟩
      show hi' = t
      omega
  refine wpS_bind (bey hint _ _ hh ?_)
  by_cases c : hint < t
  · rw [decide_eq_true c]
    dsimp only
    rw [if_pos rfl]
    refine wpS_bind (wpS_mono (wpS_forRange (I := fun i c st' => st' = st ∧ ∃ lo hi, c = (none, lo, hi) ∧ hint + lo < t ∧ i + 1 ≤ hi) (Q := fun c st' => st' = st ∧ ∃ lo hi, c = (none, lo, hi) ∧ hint + lo < t ∧ (n - hint ≤ hi ∨ t ≤ hint + hi)) ?_ ?_ ⟨rfl, 0, 1, rfl, c, Nat.le_refl _⟩) ?_)
    · rintro i c st' _ hi ⟨rfl, lo, hi', rfl, a1, a2⟩
      dsimp only
      by_cases c : hi' ≥ n - hint
      · rw [if_pos c]
        exact wpS_pure ⟨rfl, _, _, rfl, a1, .inl c⟩
      · rw [if_neg c]
        refine wpS_bind (bey (hint + hi') _ _ (by omega) ?_)
        by_cases c2 : hint + hi' < t
        · rw [decide_eq_true c2]
          exact wpS_pure ⟨rfl, _, _, rfl, c2, by omega⟩
        · rw [decide_eq_false c2]
          exact wpS_pure ⟨rfl, _, _, rfl, a1, .inr (by omega)⟩
    · rintro c st' ⟨rfl, lo, hi', rfl, a1, a2⟩
      exact ⟨rfl, _, _, rfl, a1, .inl (by omega)⟩
    · rintro c st' ⟨rfl, lo, hi', rfl, a1, a2⟩
      dsimp only
      refine wpS_bind (wpS_mono (last _ _ (by omega) (by omega) (by omega)) ?_)
      rintro ⟨c1, c2, c3⟩ st' ⟨rfl, z1, z2⟩
      obtain rfl : c1 = none := z1
      obtain rfl : c3 = t := z2
      exact wpS_pure (q _ t1 t2 t3)
  · rw [decide_eq_false c]
    dsimp only
    rw [if_neg Bool.false_ne_true]
    refine wpS_bind (wpS_mono (wpS_forRange (I := fun i c st' => st' = st ∧ ∃ lo hi, c = (none, lo, hi) ∧ lo ≤ hint ∧ t ≤ hint - lo ∧ i + 1 ≤ hi) (Q := fun c st' => st' = st ∧ ∃ lo hi, c = (none, lo, hi) ∧ lo ≤ hint ∧ t ≤ hint - lo ∧ (hint + 1 ≤ hi ∨ hint - hi < t)) ?_ ?_ ⟨rfl, 0, 1, rfl, Nat.zero_le _, by omega, Nat.le_refl _⟩) ?_)
    · rintro i c st' _ hi ⟨rfl, lo, hi', rfl, a1, a2, a3⟩
      dsimp only
      by_cases c : hi' ≥ hint + 1
      · rw [if_pos c]
        exact wpS_pure ⟨rfl, _, _, rfl, a1, a2, .inl c⟩
      · rw [if_neg c]
        refine wpS_bind (bey (hint - hi') _ _ (by omega) ?_)
        by_cases c2 : hint - hi' < t
        · rw [decide_eq_true c2]
          exact wpS_pure ⟨rfl, _, _, rfl, a1, a2, .inr c2⟩
        · rw [decide_eq_false c2]
          exact wpS_pure ⟨rfl, _, _, rfl, by omega, by omega, by omega⟩
    · rintro c st' ⟨rfl, lo, hi', rfl, a1, a2, a3⟩
      exact ⟨rfl, _, _, rfl, a1, a2, .inl (by omega)⟩
    · rintro c st' ⟨rfl, lo, hi', rfl, a1, a2, a3⟩
      dsimp only
      refine wpS_bind (wpS_mono (last _ _ (by omega) (by omega) (by omega)) ?_)
      rintro ⟨c1, c2, c3⟩ st' ⟨rfl, z1, z2⟩
      obtain rfl : c1 = none := z1
      obtain rfl : c3 = t := z2
      exact wpS_pure (q _ t1 t2 t3)
end
end L2
end
section
/-! Two rising lists joined, from the left. -/
namespace L2
open PySem PySem.W PyProof.Rows
set_option maxHeartbeats 4000000
set_option maxRecDepth 100000
set_option Elab.async false
set_option linter.unusedVariables false
/-- o is laid, x and y are left -/
structure Part (r : Keyed → Int) (a b o x y : List Keyed) : Prop where
  pm : (o ++ x ++ y).Perm (a ++ b)
  rx : Ris r (o ++ x)
  ry : Ris r (o ++ y)
section
variable {r : Keyed → Int} {a b o x y : List Keyed}
theorem Part.swap (h : Part r a b o x y) : Part r b a o y x := by
  refine ⟨?_, h.ry, h.rx⟩
  refine List.Perm.trans ?_ (h.pm.trans List.perm_append_comm)
  rw [List.append_assoc, List.append_assoc]
  exact List.Perm.append_left _ List.perm_append_comm
theorem Part.take {t : List Keyed} (h : Part r a b o (t ++ x) y) (lt : ∀ u ∈ t, ∀ v ∈ y, r u < r v) : Part r a b (o ++ t) x y := by
  refine ⟨by simpa [List.append_assoc] using h.pm, by simpa [List.append_assoc] using h.rx, ?_⟩
  have h1 := List.pairwise_append.mp h.rx
  have h2 := List.pairwise_append.mp h1.2.1
  have h3 := List.pairwise_append.mp h.ry
  refine List.pairwise_append.mpr ⟨List.pairwise_append.mpr ⟨h1.1, h2.1, fun u hu v hv => h1.2.2 u hu v (List.mem_append_left _ hv)⟩, h3.2.1, fun u hu v hv => ?_⟩
  rcases List.mem_append.mp hu with z | z
  · exact h3.2.2 u z v hv
  · exact lt u z v hv
/-- what comes out -/
def Whole (r : Keyed → Int) (a b : List Keyed) (o : Array Keyed) : Prop := o.toList.Perm (a ++ b) ∧ Ris r o.toList
theorem Part.endY {p : Array Keyed} (h : Part r a b o x []) (e : p.toList = o ++ x) : Whole r a b p := ⟨by rw [e]; simpa using h.pm, by rw [e]; exact h.rx⟩
theorem Part.endX {p : Array Keyed} (h : Part r a b o [] y) (e : p.toList = o ++ y) : Whole r a b p := ⟨by rw [e]; simpa using h.pm, by rw [e]; exact h.ry⟩
theorem Part.endOne {p : Array Keyed} {z : Keyed} (h : Part r a b o [z] y) (lt : ∀ v ∈ y, r v < r z) (e : p.toList = o ++ y ++ [z]) : Whole r a b p := by
  refine ⟨?_, ?_⟩
  · rw [e]
    refine List.Perm.trans ?_ h.pm
    rw [List.append_assoc, List.append_assoc]
    exact List.Perm.append_left _ List.perm_append_comm
  · rw [e]
    have h1 := List.pairwise_append.mp h.rx
    refine List.pairwise_append.mpr ⟨h.ry, h1.2.1, fun u hu v hv => ?_⟩
    rcases List.mem_append.mp hu with q | q
    · exact h1.2.2 u q v hv
    · rw [List.mem_singleton.mp hv]; exact lt u q
theorem ext_list (p : Array Keyed) (i k : Nat) : (p.extract i (i + k)).toList = (p.toList.drop i).take k := by
  simp [Array.toList_extract, List.extract_eq_take_drop]
theorem ext_rest (p : Array Keyed) (i : Nat) : (p.extract i).toList = p.toList.drop i := by
  rw [Array.toList_extract, List.extract_eq_take_drop]
  exact List.take_of_length_le (by rw [List.length_drop, Array.length_toList]; exact Nat.le_refl _)
end
/-- but for the gallop the same -/
structure Like (st st' : SortSt) : Prop where
  kd : kindOf st' = kindOf st
  ar : arrOf st' = arrOf st
  pd : pendingOf st' = pendingOf st
  fl : failedOf st' = failedOf st
theorem Like.refl (st : SortSt) : Like st st := ⟨rfl, rfl, rfl, rfl⟩
section
variable {prog : Program} {w : World} {A : Around} {E : Value → Shared → Prop} {s : Shared} {kd : SortKind} {G : Keyed → Prop} {r : Keyed → Int} {st : SortSt}
theorem wp_if {α : Type} {c : Prop} [Decidable c] {m n : StateT SortSt Sem α} {M : Model} {Q : α → SortSt → Prop} (h1 : c → wpS M A E s m Q st) (h2 : ¬ c → wpS M A E s n Q st) : wpS M A E s (if c then m else n) Q st := by
  by_cases h : c
  · rw [if_pos h]; exact h1 h
  · rw [if_neg h]; exact h2 h
theorem wp_named {α : Type} {m : StateT SortSt Sem α} {M : Model} {Q : α → SortSt → Prop} (h : ∀ Q', Q' = Q → wpS M A E s m Q' st) : wpS M A E s m Q st := h _ rfl
theorem wp_jump {α β : Type} {c : Prop} [Decidable c] {f : β → StateT SortSt Sem α} {x y : β} {M : Model} {Q : α → SortSt → Prop} (h : ∀ z, wpS M A E s (f z) Q st) : wpS M A E s (if c then f x else f y) Q st := wp_if (fun _ => h _) fun _ => h _
theorem joinL_is (ask : Asks prog w A s kd G r) (hk : kindOf st = kd) {a b : Array Keyed} {Q : Array Keyed → SortSt → Prop} (na : 0 < a.size) (nb : 0 < b.size) (ra : Ris r a.toList) (rb : Ris r b.toList) (ga : ∀ x ∈ a.toList, G x) (gb : ∀ x ∈ b.toList, G x)
    (ne : ∀ x ∈ a.toList, ∀ y ∈ b.toList, r x ≠ r y) (first : ∀ x ∈ a.toList, ∀ y, b[0]? = some y → r y < r x) (top : ∀ z, a[a.size - 1]? = some z → ∀ y ∈ b.toList, r y < r z)
    (q : ∀ o st', Like st st' → Whole r a.toList b.toList o → Q o st') : wpS (model prog w) A E s (joinL a b) Q st := by
  obtain ⟨la, ea⟩ : ∃ l, a.toList = l := ⟨_, rfl⟩
  obtain ⟨lb, eb⟩ : ∃ l, b.toList = l := ⟨_, rfl⟩
  have sa : a.size = la.length := by rw [← ea, Array.length_toList]
  have sb : b.size = lb.length := by rw [← eb, Array.length_toList]
  have gea : ∀ i, a[i]? = la[i]? := fun i => by rw [← ea, Array.getElem?_toList]
  have geb : ∀ i, b[i]? = lb[i]? := fun i => by rw [← eb, Array.getElem?_toList]
  rw [ea] at ra ga ne first q
  rw [eb] at rb gb ne top q
  have fin1 : ∀ {o : Array Keyed} {i j : Nat}, Part r la lb o.toList (la.drop i) (lb.drop j) → lb.length ≤ j → Whole r la lb (o ++ a.extract i ++ b.extract j) := fun {o i j} P h => by
    rw [List.drop_of_length_le h] at P
    refine P.endY ?_
    rw [Array.toList_append, Array.toList_append, ext_rest, ext_rest, ea, eb, List.drop_of_length_le h, List.append_nil]
  have fin2 : ∀ {o : Array Keyed} {i j : Nat}, Part r la lb o.toList (la.drop i) (lb.drop j) → la.length ≤ i → Whole r la lb (o ++ a.extract i ++ b.extract j) := fun {o i j} P h => by
    rw [List.drop_of_length_le h] at P
    refine P.endX ?_
    rw [Array.toList_append, Array.toList_append, ext_rest, ext_rest, ea, eb, List.drop_of_length_le h, List.append_nil]
  have fin3 : ∀ {o : Array Keyed} {i j : Nat}, Part r la lb o.toList (la.drop i) (lb.drop j) → i + 1 = la.length → Whole r la lb (o ++ b.extract j ++ a.extract i) := fun {o i j} P h => by
    have hi : i < la.length := by omega
    have e1 : la.drop i = [la[i]] := by rw [List.drop_eq_getElem_cons hi, List.drop_of_length_le (by omega)]
    rw [e1] at P
    refine P.endOne (z := la[i]) (fun v hv => top _ ?_ v (List.mem_of_mem_drop hv)) ?_
    · rw [gea, sa, ← h, show i + 1 - 1 = i by omega, List.getElem?_eq_getElem hi]
    · rw [Array.toList_append, Array.toList_append, ext_rest, ext_rest, ea, eb, e1]
  have la1 : 0 < la.length := by omega
  have lb1 : 0 < lb.length := by omega
  -- one from the right list
  have tkB : ∀ {o : Array Keyed} {i j k : Nat}, Part r la lb o.toList (la.drop i) (lb.drop j) → (∀ u ∈ (lb.drop j).take k, ∀ v ∈ la.drop i, r u < r v) → ∀ {o' : Array Keyed}, o'.toList = o.toList ++ (lb.drop j).take k → Part r la lb o'.toList (la.drop i) (lb.drop (j + k)) := fun {o i j k} P h {o'} e => by
    have := P.swap
    rw [← List.take_append_drop k (lb.drop j)] at this
    have := (this.take h).swap
    rw [e]
    rw [List.drop_drop] at this
    exact this
  have tkA : ∀ {o : Array Keyed} {i j k : Nat}, Part r la lb o.toList (la.drop i) (lb.drop j) → (∀ u ∈ (la.drop i).take k, ∀ v ∈ lb.drop j, r u < r v) → ∀ {o' : Array Keyed}, o'.toList = o.toList ++ (la.drop i).take k → Part r la lb o'.toList (la.drop (i + k)) (lb.drop j) := fun {o i j k} P h {o'} e => by
    rw [← List.take_append_drop k (la.drop i)] at P
    have := P.take h
    rw [e]
    rw [List.drop_drop] at this
    exact this
  have one : ∀ {l : List Keyed} {i : Nat} (h : i < l.length), (l.drop i).take 1 = [l[i]] := fun {l i} h => by rw [List.drop_eq_getElem_cons h]; rfl
  have hd : ∀ {l : List Keyed} {i : Nat} (h : i < l.length), Ris r l → ∀ v ∈ l.drop i, v = l[i] ∨ r l[i] < r v := fun {l i} h rl v hv => by
    have := rl.drop (i := i)
    rw [List.drop_eq_getElem_cons h] at this hv
    rcases List.mem_cons.mp hv with z | z
    · exact .inl z
    · exact .inr ((List.pairwise_cons.mp this).1 v z)
  have start : Part r la lb (#[lb[0]] : Array Keyed).toList (la.drop 0) (lb.drop 1) := by
    have P0 : Part r la lb (#[] : Array Keyed).toList (la.drop 0) (lb.drop 0) := ⟨by simp, by simpa using ra, by simpa using rb⟩
    refine tkB (k := 1) P0 (fun u hu v hv => ?_) (by rw [one lb1]; rfl)
    rw [one lb1, List.mem_singleton] at hu
    subst hu
    exact first v (List.mem_of_mem_drop hv) _ (by rw [geb, List.getElem?_eq_getElem lb1])
  refine wpS_bind (wpS_lift (wpAny_rule ⟨rfl, ?_⟩))
  refine wpS_bind (elem_is (α := Unit) (x := lb[0]) (by rw [geb, List.getElem?_eq_getElem lb1]) ?_)
  have size : ∀ {o : Array Keyed} {i j : Nat}, Part r la lb o.toList (la.drop i) (lb.drop j) → i ≤ la.length → j ≤ lb.length → o.size = i + j := fun {o i j} P h1 h2 => by
    have := P.pm.length_eq
    simp only [List.length_append, List.length_drop, Array.length_toList] at this
    omega
  refine wp_if (fun c0 => wpS_pure (q _ _ (.refl _) (fin1 start (by have := beq_iff_eq.mp c0; omega)))) fun c0 => ?_
  refine wp_if (fun c1 => wpS_pure (q _ _ (.refl _) (fin3 start (by have := beq_iff_eq.mp c1; omega)))) fun c1 => ?_
  have c0 : 1 ≠ b.size := fun e => c0 (beq_iff_eq.mpr e)
  have c1 : 0 + 1 ≠ a.size := fun e => c1 (beq_iff_eq.mpr e)
  refine wpS_bind (wpS_get ?_)
  refine wpS_bind (wpS_mono (wpS_forRange (I := fun i c st' => Like st st' ∧ ∃ o ia ib g, c = (none, o, ia, ib, g) ∧ Part r la lb o.toList (la.drop ia) (lb.drop ib) ∧ ia + 1 < la.length ∧ ib < lb.length ∧ i + 1 ≤ o.size)
    (Q := fun c st' => Like st st' ∧ ∃ o, c.1 = some o ∧ Whole r la lb o) ?_ ?_ ⟨.refl _, _, _, _, _, rfl, start, by omega, by omega, Nat.le_refl _⟩) ?_)
  rotate_left
  · rintro c st' ⟨L, o, ia, ib, g, rfl, P, h1, h2, h3⟩
    have := size P (by omega) (by omega)
    omega
  · rintro ⟨c1, c2⟩ st' ⟨L, o, e, W⟩
    obtain rfl : c1 = some o := e
    exact wpS_pure (q _ _ L W)
  rintro i c st1 _ hi ⟨L, o, ia, ib, g, rfl, P, h1, h2, h3⟩
  refine wpS_bind (wpS_mono (wpS_forRange (I := fun j c st' => st' = st1 ∧ ∃ o' ia ib ac bc, c = (none, o', ia, ib, ac, bc) ∧ Part r la lb o'.toList (la.drop ia) (lb.drop ib) ∧ ia + 1 < la.length ∧ ib < lb.length ∧ o.size + j ≤ o'.size)
    (Q := fun c st' => st' = st1 ∧ ((∃ o, c.1 = some o ∧ Whole r la lb o) ∨ ∃ o' ia ib ac bc, c = (none, o', ia, ib, ac, bc) ∧ Part r la lb o'.toList (la.drop ia) (lb.drop ib) ∧ ia + 1 < la.length ∧ ib < lb.length ∧ o.size + 1 ≤ o'.size)) ?_ ?_ ⟨rfl, _, _, _, _, _, rfl, P, h1, h2, Nat.le_refl _⟩) ?_)
  · rintro j c st' _ hj ⟨rfl, o', ia, ib, ac, bc, rfl, P, h1, h2, h3⟩
    have hia : ia < la.length := by omega
    refine wpS_bind (elem_is (α := Unit) (x := lb[ib]) (by rw [geb, List.getElem?_eq_getElem h2]) ?_)
    refine wpS_bind (elem_is (α := Unit) (x := la[ia]) (by rw [gea, List.getElem?_eq_getElem hia]) ?_)
    refine wpS_bind (ask _ _ _ _ _ (gb _ (List.getElem_mem _)) (ga _ (List.getElem_mem _)) (L.kd.trans hk) ?_)
    have nn := ne la[ia] (List.getElem_mem _) lb[ib] (List.getElem_mem _)
    by_cases c : r lb[ib] < r la[ia]
    · rw [decide_eq_true c]
      have P' : Part r la lb (o'.push lb[ib]).toList (la.drop ia) (lb.drop (ib + 1)) := tkB (k := 1) P (fun u hu v hv => by
        rw [one h2, List.mem_singleton] at hu
        subst hu
        rcases hd hia ra v hv with z | z
        · rw [z]; exact c
        · omega) (by rw [one h2, Array.toList_push])
      have sz := Array.size_push lb[ib] (xs := o')
      refine wp_if (fun _ => ?_) fun z => absurd rfl z
      refine wpS_bind (elem_is (α := Unit) (x := lb[ib]) (by rw [geb, List.getElem?_eq_getElem h2]) ?_)
      refine wp_if (fun e => wpS_pure ⟨rfl, .inl ⟨_, rfl, fin1 P' (by have := beq_iff_eq.mp e; omega)⟩⟩) fun e => ?_
      have e : ib + 1 ≠ b.size := fun z => e (beq_iff_eq.mpr z)
      exact wp_if (fun _ => wpS_pure ⟨rfl, .inr ⟨_, _, _, _, _, rfl, P', h1, (by try dsimp only; omega), (by try dsimp only; omega)⟩⟩) fun _ => wpS_pure ⟨rfl, _, _, _, _, _, rfl, P', h1, (by try dsimp only; omega), (by try dsimp only; omega)⟩
    · rw [decide_eq_false c]
      have P' : Part r la lb (o'.push la[ia]).toList (la.drop (ia + 1)) (lb.drop ib) := tkA (k := 1) P (fun u hu v hv => by
        rw [one hia, List.mem_singleton] at hu
        subst hu
        rcases hd h2 rb v hv with z | z
        · rw [z]; omega
        · omega) (by rw [one hia, Array.toList_push])
      have sz := Array.size_push la[ia] (xs := o')
      refine wp_if (fun z => absurd z Bool.false_ne_true) fun _ => ?_
      refine wpS_bind (elem_is (α := Unit) (x := la[ia]) (by rw [gea, List.getElem?_eq_getElem hia]) ?_)
      refine wp_if (fun e => wpS_pure ⟨rfl, .inl ⟨_, rfl, fin3 P' (by have := beq_iff_eq.mp e; omega)⟩⟩) fun e => ?_
      have e : ia + 1 + 1 ≠ a.size := fun z => e (beq_iff_eq.mpr z)
      exact wp_if (fun _ => wpS_pure ⟨rfl, .inr ⟨_, _, _, _, _, rfl, P', (by try dsimp only; omega), h2, (by try dsimp only; omega)⟩⟩) fun _ => wpS_pure ⟨rfl, _, _, _, _, _, rfl, P', (by try dsimp only; omega), h2, (by try dsimp only; omega)⟩
  · rintro c st' ⟨rfl, o', ia, ib, ac, bc, rfl, P, h1, h2, h3⟩
    exact ⟨rfl, .inr ⟨_, _, _, _, _, rfl, P, h1, h2, by omega⟩⟩
  rintro c st' ⟨rfl, ⟨w1, e, W⟩ | ⟨o', ia, ib, ac, bc, rfl, P, h1, h2, h4⟩⟩
  · obtain ⟨c1, c2⟩ := c
    obtain rfl : c1 = some w1 := e
    exact wpS_pure ⟨L, _, rfl, W⟩
  refine wpS_bind (wpS_lift (wpAny_rule ⟨rfl, ?_⟩))
  refine wpS_bind (wpS_mono (wpS_forRange (I := fun j c st' => Like st st' ∧ ∃ o' ia ib g ac bc, c = (none, o', ia, ib, g, ac, bc) ∧ Part r la lb o'.toList (la.drop ia) (lb.drop ib) ∧ ia + 1 < la.length ∧ ib < lb.length ∧ o.size + 1 ≤ o'.size)
    (Q := fun c st' => Like st st' ∧ ((∃ o, c.1 = some o ∧ Whole r la lb o) ∨ ∃ o' ia ib g ac bc, c = (none, o', ia, ib, g, ac, bc) ∧ Part r la lb o'.toList (la.drop ia) (lb.drop ib) ∧ ia + 1 < la.length ∧ ib < lb.length ∧ o.size + 1 ≤ o'.size)) ?_ ?_ ⟨L, _, _, _, _, _, _, rfl, P, h1, h2, h4⟩) ?_)
  · rintro j c st2 _ hj ⟨L2, o', ia, ib, g, ac, bc, rfl, P, h1, h2, h3⟩
    lift_lets
    intro s1 out1 s2 ia1 s3 ib1 s4 g1 s5 ac1 bc1 ib2 jp g2
    refine wp_named fun Q' hQ => ?_
    have fD : ∀ {c o st'}, Like st st' → c.1 = some o → Whole r la lb o → Q' (.done c) st' := fun {c o st'} x y z => by subst hQ; exact ⟨x, .inl ⟨o, y, z⟩⟩
    have fN : ∀ {st' u i j g ac bc}, Like st st' → Part r la lb u.toList (la.drop i) (lb.drop j) → i + 1 < la.length → j < lb.length → o.size + 1 ≤ u.size → Q' (.done (none, u, i, j, g, ac, bc)) st' ∧ Q' (.yield (none, u, i, j, g, ac, bc)) st' := fun {st' u i j g ac bc} x y z v q => by
      subst hQ; exact ⟨⟨x, .inr ⟨_, _, _, _, _, _, rfl, y, z, v, q⟩⟩, x, _, _, _, _, _, _, rfl, y, z, v, q⟩
    clear hQ
    have hia : ia < la.length := by omega
    refine wp_jump (f := jp ()) fun g' => ?_
    refine wpS_bind (wpS_modify ?_)
    refine wpS_bind (elem_is (α := Unit) (x := lb[ib]) (by show b[ib]? = _; rw [geb, List.getElem?_eq_getElem h2]) ?_)
    have L3 : Like st (SortSt.mk' (kindOf st2) (arrOf st2) (pendingOf st2) g' (failedOf st2)) := ⟨L2.kd, L2.ar, L2.pd, L2.fl⟩
    refine wpS_bind (leap_is ask (L3.kd.trans hk) (l := la.drop ia) (fun i _ => by show a[ia + i]? = _; rw [gea, List.getElem?_drop]) (by show _ = a.size - ia; rw [List.length_drop, sa]) (fun x hx => ga x (List.mem_of_mem_drop hx)) (gb _ (List.getElem_mem _)) (ra.drop) (fun x hx => ne x (List.mem_of_mem_drop hx) _ (List.getElem_mem _)) (by show 0 < a.size - ia; omega) fun t t1 t2 t3 => ?_)
    rw [List.drop_drop] at t3
    have t1 : ia + t ≤ la.length := by have : t ≤ a.size - ia := t1; omega
    dsimp -zeta only
    lift_lets
    intro ac2 jp2 out2 ia2
    have J2 : ∀ u i, Part r la lb u.toList (la.drop i) (lb.drop ib) → i + 1 < la.length → (∀ x ∈ la.drop i, r lb[ib] < r x) → o.size + 1 ≤ u.size → wpS (model prog w) A E s (jp2 () u i) Q' (SortSt.mk' (kindOf st2) (arrOf st2) (pendingOf st2) g' (failedOf st2)) := fun u i P hi lt hz => by
      have hi' : i < la.length := by omega
      refine wpS_bind (elem_is (α := Unit) (x := lb[ib]) (by show b[ib]? = _; rw [geb, List.getElem?_eq_getElem h2]) ?_)
      have P' : Part r la lb (u.push lb[ib]).toList (la.drop i) (lb.drop (ib + 1)) := tkB (k := 1) P (fun x hx v hv => by
        rw [one h2, List.mem_singleton] at hx
        subst hx
        exact lt v hv) (by rw [one h2, Array.toList_push])
      have sz := Array.size_push lb[ib] (xs := u)
      refine wp_if (fun e => wpS_pure (fD L3 rfl (fin1 P' (by show lb.length ≤ ib + 1; have : ib + 1 = b.size := beq_iff_eq.mp e; omega)))) fun e => ?_
      have e : ¬ ib + 1 = b.size := fun z => e (beq_iff_eq.mpr z)
      refine wpS_bind (elem_is (α := Unit) (x := la[i]) (by rw [gea, List.getElem?_eq_getElem hi']) ?_)
      refine wpS_bind (leap_is ask (L3.kd.trans hk) (l := lb.drop (ib + 1)) (fun i _ => by show b[ib + 1 + i]? = _; rw [geb, List.getElem?_drop]) (by show _ = b.size - (ib + 1); rw [List.length_drop, sb]) (fun x hx => gb x (List.mem_of_mem_drop hx)) (ga _ (List.getElem_mem _)) (rb.drop) (fun x hx z => ne _ (List.getElem_mem _) x (List.mem_of_mem_drop hx) z.symm) (by show 0 < b.size - (ib + 1); omega) fun t' q1 q2 q3 => ?_)
      rw [List.drop_drop] at q3
      have q1 : ib + 1 + t' ≤ lb.length := by have : t' ≤ b.size - (ib + 1) := q1; omega
      dsimp -zeta only
      lift_lets
      intro bc2 jp3 out3 ib3
      have J3 : ∀ u j, Part r la lb u.toList (la.drop i) (lb.drop j) → j < lb.length → (∀ x ∈ lb.drop j, r la[i] < r x) → o.size + 1 ≤ u.size → wpS (model prog w) A E s (jp3 () u j) Q' (SortSt.mk' (kindOf st2) (arrOf st2) (pendingOf st2) g' (failedOf st2)) := fun u j P hj lt hz => by
        refine wpS_bind (elem_is (α := Unit) (x := la[i]) (by rw [gea, List.getElem?_eq_getElem hi']) ?_)
        have P' : Part r la lb (u.push la[i]).toList (la.drop (i + 1)) (lb.drop j) := tkA (k := 1) P (fun x hx v hv => by
          rw [one hi', List.mem_singleton] at hx
          subst hx
          exact lt v hv) (by rw [one hi', Array.toList_push])
        have sz := Array.size_push la[i] (xs := u)
        refine wp_if (fun e => wpS_pure (fD L3 rfl (fin3 P' (by show i + 1 + 1 = la.length; have : i + 1 + 1 = a.size := beq_iff_eq.mp e; omega)))) fun e => ?_
        have e : ¬ i + 1 + 1 = a.size := fun z => e (beq_iff_eq.mpr z)
        have F := fun {g ac bc} => fN (g := g) (ac := ac) (bc := bc) L3 P' (by omega) hj (by omega)
        exact wp_if (fun _ => wpS_pure F.1) fun _ => wpS_pure F.2
      have P2 : Part r la lb (u.push lb[ib] ++ b.extract (ib + 1) (ib + 1 + t')).toList (la.drop i) (lb.drop (ib + 1 + t')) := tkB (k := t') P' (fun x hx v hv => by
        have := q2 x hx
        rcases hd hi' ra v hv with z | z
        · rw [z]; exact this
        · omega) (by rw [Array.toList_append, ext_list, eb])
      have z2 : (u.push lb[ib]).size ≤ (u.push lb[ib] ++ b.extract (ib + 1) (ib + 1 + t')).size := by rw [Array.size_append]; omega
      refine wp_if (fun k0 => wp_if (fun e => wpS_pure (fD L3 rfl (fin1 P2 ?_))) fun e => ?_) fun k0 => ?_
      · have : ib + 1 + t' = b.size := beq_iff_eq.mp e
        show lb.length ≤ ib + 1 + t'
        omega
      · have e : ¬ ib + 1 + t' = b.size := fun z => e (beq_iff_eq.mpr z)
        exact J3 _ _ P2 (by show ib + 1 + t' < _; omega) q3 (by show _ ≤ (u.push lb[ib] ++ b.extract (ib + 1) (ib + 1 + t')).size; omega)
      · have k0 : t' = 0 := by have : ¬ t' > 0 := k0; omega
        subst k0
        exact J3 _ _ P' (by show ib + 1 < _; omega) q3 (by show _ ≤ (u.push lb[ib]).size; omega)
    have P2 : Part r la lb (o' ++ a.extract ia (ia + t)).toList (la.drop (ia + t)) (lb.drop ib) := tkA (k := t) P (fun u hu v hv => by
      have := t2 u hu
      rcases hd h2 rb v hv with z | z
      · rw [z]; exact this
      · omega) (by rw [Array.toList_append, ext_list, ea])
    have z2 : o'.size ≤ (o' ++ a.extract ia (ia + t)).size := by rw [Array.size_append]; omega
    refine wp_if (fun k0 => wp_if (fun e => wpS_pure (fD L3 rfl (fin3 P2 ?_))) fun e => wp_if (fun e' => wpS_pure (fD L3 rfl (fin2 P2 ?_))) fun e' => ?_) fun k0 => ?_
    · have : ia + t + 1 = a.size := beq_iff_eq.mp e
      show ia + t + 1 = la.length
      omega
    · have : ia + t = a.size := beq_iff_eq.mp e'
      show la.length ≤ ia + t
      omega
    · have e : ¬ ia + t + 1 = a.size := fun z => e (beq_iff_eq.mpr z)
      have e' : ¬ ia + t = a.size := fun z => e' (beq_iff_eq.mpr z)
      exact J2 _ _ P2 (by show ia + t + 1 < _; omega) t3 (by show _ ≤ (o' ++ a.extract ia (ia + t)).size; omega)
    · have k0 : t = 0 := by have : ¬ t > 0 := k0; omega
      subst k0
      exact J2 _ _ P h1 t3 h3
  · rintro c st' ⟨L2, o', ia, ib, g, ac, bc, rfl, P, h1, h2, h3⟩
    exact ⟨L2, .inr ⟨_, _, _, _, _, _, rfl, P, h1, h2, h3⟩⟩
  rintro c st' ⟨L2, ⟨w1, e, W⟩ | ⟨o', ia, ib, g, ac, bc, rfl, P, h1, h2, h4⟩⟩
  · obtain ⟨c1, c2⟩ := c
    obtain rfl : c1 = some w1 := e
    exact wpS_pure ⟨L2, _, rfl, W⟩
  refine wpS_bind (wpS_modify (wpS_pure ⟨⟨L2.kd, L2.ar, L2.pd, L2.fl⟩, _, _, _, _, rfl, P, h1, h2, (by try dsimp only; omega)⟩))
end
end L2
end
section
/-! Two rising lists joined, from the right. -/
namespace L2
open PySem PySem.W PyProof.Rows
set_option maxHeartbeats 4000000
set_option maxRecDepth 100000
set_option Elab.async false
set_option linter.unusedVariables false
/-- x and y are left, o is laid behind -/
structure PartR (r : Keyed → Int) (a b x y o : List Keyed) : Prop where
  pm : (x ++ y ++ o).Perm (a ++ b)
  rx : Ris r (x ++ o)
  ry : Ris r (y ++ o)
section
variable {r : Keyed → Int} {a b o x y : List Keyed}
theorem PartR.swap (h : PartR r a b x y o) : PartR r b a y x o := by
  refine ⟨?_, h.ry, h.rx⟩
  exact List.Perm.trans (List.Perm.append_right _ List.perm_append_comm) (h.pm.trans List.perm_append_comm)
theorem PartR.take {t : List Keyed} (h : PartR r a b (x ++ t) y o) (lt : ∀ v ∈ y, ∀ u ∈ t, r v < r u) : PartR r a b x y (t ++ o) := by
  refine ⟨List.Perm.trans ?_ h.pm, by simpa [List.append_assoc] using h.rx, ?_⟩
  · rw [List.append_assoc, List.append_assoc, List.append_assoc]
    refine List.Perm.append_left _ ?_
    rw [← List.append_assoc, ← List.append_assoc]
    exact List.Perm.append_right _ List.perm_append_comm
  have h1 := List.pairwise_append.mp h.rx
  have h2 := List.pairwise_append.mp h1.1
  have h3 := List.pairwise_append.mp h.ry
  refine List.pairwise_append.mpr ⟨h3.1, List.pairwise_append.mpr ⟨h2.2.1, h1.2.1, fun u hu v hv => h1.2.2 u (List.mem_append_right _ hu) v hv⟩, fun u hu v hv => ?_⟩
  rcases List.mem_append.mp hv with z | z
  · exact lt u hu v z
  · exact h3.2.2 u hu v z
theorem PartR.endX {p : Array Keyed} (h : PartR r a b [] y o) (e : p.toList = y ++ o) : Whole r a b p := ⟨by rw [e]; simpa using h.pm, by rw [e]; exact h.ry⟩
theorem PartR.endOne {p : Array Keyed} {z : Keyed} (h : PartR r a b x [z] o) (lt : ∀ v ∈ x, r z < r v) (e : p.toList = [z] ++ x ++ o) : Whole r a b p := by
  refine ⟨?_, ?_⟩
  · rw [e]
    exact List.Perm.trans (List.Perm.append_right _ List.perm_append_comm) h.pm
  · rw [e]
    have h1 := List.pairwise_append.mp h.ry
    rw [List.append_assoc]
    refine List.pairwise_append.mpr ⟨List.pairwise_singleton _ _, h.rx, fun u hu v hv => ?_⟩
    rw [List.mem_singleton.mp hu]
    rcases List.mem_append.mp hv with q | q
    · exact lt v q
    · exact h1.2.2 z (List.mem_singleton.mpr rfl) v q
theorem ext_front (p : Array Keyed) (i : Nat) : (p.extract 0 i).toList = p.toList.take i := by
  rw [Array.toList_extract, List.extract_eq_take_drop]; rfl
theorem ext_mid (p : Array Keyed) (i j : Nat) : (p.extract i j).toList = (p.toList.take j).drop i := by
  rw [Array.toList_extract, List.extract_eq_take_drop, List.drop_take]
theorem take_end {l : List Keyed} {i : Nat} (h0 : 0 < i) (h : i ≤ l.length) : l.take i = l.take (i - 1) ++ [l[i - 1]'(by omega)] := by
  have : i = (i - 1) + 1 := by omega
  conv => lhs; rw [this]
  rw [List.take_succ_eq_append_getElem (by omega)]
theorem take_cut {l : List Keyed} {i j : Nat} (h : j ≤ i) : l.take i = l.take j ++ (l.take i).drop j := by
  have := List.take_append_drop j (l.take i)
  rw [List.take_take, Nat.min_eq_left h] at this
  exact this.symm
end
section
variable {prog : Program} {w : World} {A : Around} {E : Value → Shared → Prop} {s : Shared} {kd : SortKind} {G : Keyed → Prop} {r : Keyed → Int} {st : SortSt}
theorem joinR_is (ask : Asks prog w A s kd G r) (hk : kindOf st = kd) {a b : Array Keyed} {Q : Array Keyed → SortSt → Prop} (na0 : 0 < a.size) (nb0 : 0 < b.size) (ra : Ris r a.toList) (rb : Ris r b.toList) (ga : ∀ x ∈ a.toList, G x) (gb : ∀ x ∈ b.toList, G x)
    (ne : ∀ x ∈ a.toList, ∀ y ∈ b.toList, r x ≠ r y) (first : ∀ x ∈ a.toList, ∀ y, b[0]? = some y → r y < r x) (top : ∀ z, a[a.size - 1]? = some z → ∀ y ∈ b.toList, r y < r z)
    (q : ∀ o st', Like st st' → Whole r a.toList b.toList o → Q o st') : wpS (model prog w) A E s (joinR a b) Q st := by
  obtain ⟨la, ea⟩ : ∃ l, a.toList = l := ⟨_, rfl⟩
  obtain ⟨lb, eb⟩ : ∃ l, b.toList = l := ⟨_, rfl⟩
  have sa : a.size = la.length := by rw [← ea, Array.length_toList]
  have sb : b.size = lb.length := by rw [← eb, Array.length_toList]
  have gea : ∀ i, a[i]? = la[i]? := fun i => by rw [← ea, Array.getElem?_toList]
  have geb : ∀ i, b[i]? = lb[i]? := fun i => by rw [← eb, Array.getElem?_toList]
  rw [ea] at ra ga ne first q
  rw [eb] at rb gb ne top q
  have la1 : 0 < la.length := by omega
  have lb1 : 0 < lb.length := by omega
  have fin1 : ∀ {o : Array Keyed} {i j : Nat}, PartR r la lb (la.take i) (lb.take j) o.toList.reverse → i = 0 → Whole r la lb (a.extract 0 i ++ b.extract 0 j ++ o.reverse) := fun {o i j} P h => by
    subst h
    refine PartR.endX (show PartR r la lb [] (lb.take j) o.toList.reverse from P) ?_
    rw [Array.toList_append, Array.toList_append, ext_front, ext_front, ea, eb, Array.toList_reverse]
    rfl
  have fin2 : ∀ {o : Array Keyed} {i j : Nat}, PartR r la lb (la.take i) (lb.take j) o.toList.reverse → j = 0 → Whole r la lb (a.extract 0 i ++ b.extract 0 j ++ o.reverse) := fun {o i j} P h => by
    subst h
    refine (fun W : Whole r lb la _ => ⟨W.1.trans List.perm_append_comm, W.2⟩) (PartR.endX (show PartR r lb la [] (la.take i) o.toList.reverse from P.swap) ?_)
    rw [Array.toList_append, Array.toList_append, ext_front, ext_front, ea, eb, Array.toList_reverse]
    simp
  have fin3 : ∀ {o : Array Keyed} {i j : Nat}, PartR r la lb (la.take i) (lb.take j) o.toList.reverse → j = 1 → Whole r la lb (b.extract 0 j ++ a.extract 0 i ++ o.reverse) := fun {o i j} P h => by
    subst h
    have e1 : lb.take 1 = [lb[0]] := by rw [take_end (by omega) (by omega)]; simp
    rw [e1] at P
    refine P.endOne (z := lb[0]) (fun v hv => first v (List.mem_of_mem_take hv) _ (by rw [geb, List.getElem?_eq_getElem lb1])) ?_
    rw [Array.toList_append, Array.toList_append, ext_front, ext_front, ea, eb, Array.toList_reverse, e1]
  have tkA : ∀ {o : Array Keyed} {i j k : Nat}, PartR r la lb (la.take i) (lb.take j) o.toList.reverse → k ≤ i → (∀ v ∈ lb.take j, ∀ u ∈ (la.take i).drop k, r v < r u) → ∀ {o' : Array Keyed}, o'.toList.reverse = (la.take i).drop k ++ o.toList.reverse → PartR r la lb (la.take k) (lb.take j) o'.toList.reverse := fun {o i j k} P hk h {o'} e => by
    rw [take_cut hk] at P
    rw [e]
    exact P.take h
  have tkB : ∀ {o : Array Keyed} {i j k : Nat}, PartR r la lb (la.take i) (lb.take j) o.toList.reverse → k ≤ j → (∀ v ∈ la.take i, ∀ u ∈ (lb.take j).drop k, r v < r u) → ∀ {o' : Array Keyed}, o'.toList.reverse = (lb.take j).drop k ++ o.toList.reverse → PartR r la lb (la.take i) (lb.take k) o'.toList.reverse := fun {o i j k} P hk h {o'} e => by
    have P := P.swap
    rw [take_cut hk] at P
    rw [e]
    exact (P.take h).swap
  have one : ∀ {l : List Keyed} {i : Nat} (h0 : 0 < i) (h : i ≤ l.length), (l.take i).drop (i - 1) = [l[i - 1]'(by omega)] := fun {l i} h0 h => by
    rw [take_end h0 h, List.drop_append_of_le_length (by rw [List.length_take]; omega), List.drop_of_length_le (by rw [List.length_take]; omega)]
    rfl
  have hd : ∀ {l : List Keyed} {i : Nat} (h0 : 0 < i) (h : i ≤ l.length), Ris r l → ∀ v ∈ l.take i, v = l[i - 1]'(by omega) ∨ r v < r (l[i - 1]'(by omega)) := fun {l i} h0 h rl v hv => by
    have := rl.take (i := i)
    rw [take_end h0 h] at this hv
    rcases List.mem_append.mp hv with z | z
    · exact .inr ((List.pairwise_append.mp this).2.2 v z _ (List.mem_singleton.mpr rfl))
    · exact .inl (List.mem_singleton.mp z)
  have size : ∀ {o : Array Keyed} {i j : Nat}, PartR r la lb (la.take i) (lb.take j) o.toList.reverse → i ≤ la.length → j ≤ lb.length → o.size + i + j = la.length + lb.length := fun {o i j} P h1 h2 => by
    have := P.pm.length_eq
    simp only [List.length_append, List.length_take, List.length_reverse, Array.length_toList] at this
    omega
  have ix : la.length - 1 < la.length := by omega
  have start : PartR r la lb (la.take (la.length - 1)) (lb.take lb.length) (#[la[la.length - 1]] : Array Keyed).toList.reverse := by
    have P0 : PartR r la lb (la.take la.length) (lb.take lb.length) (#[] : Array Keyed).toList.reverse := ⟨by simp, by simpa using ra, by simpa using rb⟩
    refine tkA P0 (by omega) (fun v hv u hu => ?_) (by rw [one la1 (Nat.le_refl _)]; rfl)
    rw [one la1 (Nat.le_refl _), List.mem_singleton] at hu
    subst hu
    exact top _ (by rw [gea, sa, List.getElem?_eq_getElem ix]) v (List.mem_of_mem_take hv)
  refine wpS_bind (wpS_lift (wpAny_rule ⟨rfl, ?_⟩))
  refine wpS_bind (elem_is (α := Unit) (x := la[la.length - 1]) (by show a[a.size - 1]? = _; rw [gea, sa, List.getElem?_eq_getElem ix]) ?_)
  generalize la[la.length - 1] = z0 at start ⊢
  rw [← sa, ← sb] at start
  refine wp_if (fun c0 => wpS_pure (q _ _ (.refl _) (fin1 start (by have : a.size - 1 = 0 := beq_iff_eq.mp c0; exact this)))) fun c0 => ?_
  refine wp_if (fun c1 => wpS_pure (q _ _ (.refl _) (fin3 start (by have : b.size = 1 := beq_iff_eq.mp c1; exact this)))) fun c1 => ?_
  have c0 : a.size - 1 ≠ 0 := fun e => c0 (beq_iff_eq.mpr e)
  have c1 : b.size ≠ 1 := fun e => c1 (beq_iff_eq.mpr e)
  refine wpS_bind (wpS_get ?_)
  refine wpS_bind (wpS_mono (wpS_forRange (I := fun i c st' => Like st st' ∧ ∃ o na nb g, c = (none, na, nb, o, g) ∧ PartR r la lb (la.take na) (lb.take nb) o.toList.reverse ∧ 0 < na ∧ na ≤ la.length ∧ 1 < nb ∧ nb ≤ lb.length ∧ i + 1 ≤ o.size)
    (Q := fun c st' => Like st st' ∧ ∃ o, c.1 = some o ∧ Whole r la lb o) ?_ ?_ ⟨.refl _, _, _, _, _, rfl, start, by omega, by omega, by omega, by omega, Nat.le_refl _⟩) ?_)
  rotate_left
  · rintro c st' ⟨L, o, na, nb, g, rfl, P, h0, h1, h2, h3, h4⟩
    have := size P (by omega) (by omega)
    omega
  · rintro ⟨c1, c2⟩ st' ⟨L, o, e, W⟩
    obtain rfl : c1 = some o := e
    exact wpS_pure (q _ _ L W)
  rintro i c st1 _ hi ⟨L, o, na, nb, g, rfl, P, h0, h1, h2, h3, h4⟩
  refine wpS_bind (wpS_mono (wpS_forRange (I := fun j c st' => st' = st1 ∧ ∃ o' na nb ac bc, c = (none, na, nb, o', ac, bc) ∧ PartR r la lb (la.take na) (lb.take nb) o'.toList.reverse ∧ 0 < na ∧ na ≤ la.length ∧ 1 < nb ∧ nb ≤ lb.length ∧ o.size + j ≤ o'.size)
    (Q := fun c st' => st' = st1 ∧ ((∃ o, c.1 = some o ∧ Whole r la lb o) ∨ ∃ o' na nb ac bc, c = (none, na, nb, o', ac, bc) ∧ PartR r la lb (la.take na) (lb.take nb) o'.toList.reverse ∧ 0 < na ∧ na ≤ la.length ∧ 1 < nb ∧ nb ≤ lb.length ∧ o.size + 1 ≤ o'.size)) ?_ ?_ ⟨rfl, _, _, _, _, _, rfl, P, h0, h1, h2, h3, Nat.le_refl _⟩) ?_)
  · rintro j c st' _ hj ⟨rfl, o', na, nb, ac, bc, rfl, P, h0, h1, h2, h3, h4⟩
    have hia : na - 1 < la.length := by omega
    have hib : nb - 1 < lb.length := by omega
    refine wpS_bind (elem_is (α := Unit) (x := lb[nb - 1]) (by show b[nb - 1]? = _; rw [geb, List.getElem?_eq_getElem hib]) ?_)
    refine wpS_bind (elem_is (α := Unit) (x := la[na - 1]) (by show a[na - 1]? = _; rw [gea, List.getElem?_eq_getElem hia]) ?_)
    refine wpS_bind (ask _ _ _ _ _ (gb _ (List.getElem_mem _)) (ga _ (List.getElem_mem _)) (L.kd.trans hk) ?_)
    have nn := ne la[na - 1] (List.getElem_mem _) lb[nb - 1] (List.getElem_mem _)
    by_cases c : r lb[nb - 1] < r la[na - 1]
    · rw [decide_eq_true c]
      have P' : PartR r la lb (la.take (na - 1)) (lb.take nb) (o'.push la[na - 1]).toList.reverse := tkA P (by omega) (fun v hv u hu => by
        rw [one h0 h1, List.mem_singleton] at hu
        subst hu
        rcases hd (by omega) h3 rb v hv with z | z
        · rw [z]; exact c
        · omega) (by rw [one h0 h1, Array.toList_push, List.reverse_append]; rfl)
      have sz := Array.size_push la[na - 1] (xs := o')
      refine wp_if (fun _ => ?_) fun z => absurd rfl z
      refine wpS_bind (elem_is (α := Unit) (x := la[na - 1]) (by show a[na - 1]? = _; rw [gea, List.getElem?_eq_getElem hia]) ?_)
      refine wp_if (fun e => wpS_pure ⟨rfl, .inl ⟨_, rfl, fin1 P' (by have : na - 1 = 0 := beq_iff_eq.mp e; exact this)⟩⟩) fun e => ?_
      have e : ¬ na - 1 = 0 := fun z => e (beq_iff_eq.mpr z)
      exact wp_if (fun _ => wpS_pure ⟨rfl, .inr ⟨_, _, _, _, _, rfl, P', (by try dsimp only; omega), (by try dsimp only; omega), h2, h3, (by try dsimp only; omega)⟩⟩) fun _ => wpS_pure ⟨rfl, _, _, _, _, _, rfl, P', (by try dsimp only; omega), (by try dsimp only; omega), h2, h3, (by try dsimp only; omega)⟩
    · rw [decide_eq_false c]
      have P' : PartR r la lb (la.take na) (lb.take (nb - 1)) (o'.push lb[nb - 1]).toList.reverse := tkB P (by omega) (fun v hv u hu => by
        rw [one (by omega) h3, List.mem_singleton] at hu
        subst hu
        rcases hd h0 h1 ra v hv with z | z
        · rw [z]; omega
        · omega) (by rw [one (by omega) h3, Array.toList_push, List.reverse_append]; rfl)
      have sz := Array.size_push lb[nb - 1] (xs := o')
      refine wp_if (fun z => absurd z Bool.false_ne_true) fun _ => ?_
      refine wpS_bind (elem_is (α := Unit) (x := lb[nb - 1]) (by show b[nb - 1]? = _; rw [geb, List.getElem?_eq_getElem hib]) ?_)
      refine wp_if (fun e => wpS_pure ⟨rfl, .inl ⟨_, rfl, fin3 P' (by have : nb - 1 = 1 := beq_iff_eq.mp e; exact this)⟩⟩) fun e => ?_
      have e : ¬ nb - 1 = 1 := fun z => e (beq_iff_eq.mpr z)
      exact wp_if (fun _ => wpS_pure ⟨rfl, .inr ⟨_, _, _, _, _, rfl, P', h0, h1, (by try dsimp only; omega), (by try dsimp only; omega), (by try dsimp only; omega)⟩⟩) fun _ => wpS_pure ⟨rfl, _, _, _, _, _, rfl, P', h0, h1, (by try dsimp only; omega), (by try dsimp only; omega), (by try dsimp only; omega)⟩
  · rintro c st' ⟨rfl, o', na, nb, ac, bc, rfl, P, h0, h1, h2, h3, h4⟩
    exact ⟨rfl, .inr ⟨_, _, _, _, _, rfl, P, h0, h1, h2, h3, by omega⟩⟩
  rintro c st' ⟨rfl, ⟨w1, e, W⟩ | ⟨o', na, nb, ac, bc, rfl, P, h0, h1, h2, h3, h5⟩⟩
  · obtain ⟨c1, c2⟩ := c
    obtain rfl : c1 = some w1 := e
    exact wpS_pure ⟨L, _, rfl, W⟩
  refine wpS_bind (wpS_lift (wpAny_rule ⟨rfl, ?_⟩))
  refine wpS_bind (wpS_mono (wpS_forRange (I := fun j c st' => Like st st' ∧ ∃ o' na nb g ac bc, c = (none, na, nb, o', g, ac, bc) ∧ PartR r la lb (la.take na) (lb.take nb) o'.toList.reverse ∧ 0 < na ∧ na ≤ la.length ∧ 1 < nb ∧ nb ≤ lb.length ∧ o.size + 1 ≤ o'.size)
    (Q := fun c st' => Like st st' ∧ ((∃ o, c.1 = some o ∧ Whole r la lb o) ∨ ∃ o' na nb g ac bc, c = (none, na, nb, o', g, ac, bc) ∧ PartR r la lb (la.take na) (lb.take nb) o'.toList.reverse ∧ 0 < na ∧ na ≤ la.length ∧ 1 < nb ∧ nb ≤ lb.length ∧ o.size + 1 ≤ o'.size)) ?_ ?_ ⟨L, _, _, _, _, _, _, rfl, P, h0, h1, h2, h3, h5⟩) ?_)
  · rintro j c st2 _ hj ⟨L2, o', na, nb, g, ac, bc, rfl, P, h0, h1, h2, h3, h4⟩
    lift_lets
    intro s1 na1 s2 nb1 s3 out1 s4 g1 s5 ac1 bc1 nb2 jp g2
    refine wp_named fun Q' hQ => ?_
    have fD : ∀ {c o st'}, Like st st' → c.1 = some o → Whole r la lb o → Q' (.done c) st' := fun {c o st'} x y z => by subst hQ; exact ⟨x, .inl ⟨o, y, z⟩⟩
    have fN : ∀ {st' u i j g ac bc}, Like st st' → PartR r la lb (la.take i) (lb.take j) u.toList.reverse → 0 < i → i ≤ la.length → 1 < j → j ≤ lb.length → o.size + 1 ≤ u.size → Q' (.done (none, i, j, u, g, ac, bc)) st' ∧ Q' (.yield (none, i, j, u, g, ac, bc)) st' := fun {st' u i j g ac bc} x y z1 z2 z3 z4 q => by
      subst hQ; exact ⟨⟨x, .inr ⟨_, _, _, _, _, _, rfl, y, z1, z2, z3, z4, q⟩⟩, x, _, _, _, _, _, _, rfl, y, z1, z2, z3, z4, q⟩
    clear hQ
    have hib : nb - 1 < lb.length := by omega
    refine wp_jump (f := jp ()) fun g' => ?_
    refine wpS_bind (wpS_modify ?_)
    refine wpS_bind (elem_is (α := Unit) (x := lb[nb - 1]) (by show b[nb - 1]? = _; rw [geb, List.getElem?_eq_getElem hib]) ?_)
    have L3 : Like st (SortSt.mk' (kindOf st2) (arrOf st2) (pendingOf st2) g' (failedOf st2)) := ⟨L2.kd, L2.ar, L2.pd, L2.fl⟩
    have front : ∀ {p : Array Keyed} {l : List Keyed} {n : Nat}, (∀ i, p[i]? = l[i]?) → ∀ i, i < n → p[0 + i]? = (l.take n)[i]? := fun {p l n} h i hi => by rw [Nat.zero_add, h, List.getElem?_take, if_pos hi]
    refine wpS_bind (leap_is ask (L3.kd.trans hk) (l := la.take na) (front gea) (by show _ = na; rw [List.length_take]; omega) (fun x hx => ga x (List.mem_of_mem_take hx)) (gb _ (List.getElem_mem _)) (ra.take) (fun x hx => ne x (List.mem_of_mem_take hx) _ (List.getElem_mem _)) (by show na - 1 < na; omega) fun t t1 t2 t3 => ?_)
    rw [List.take_take] at t2
    have t1 : t ≤ na := t1
    rw [Nat.min_eq_left t1] at t2
    dsimp -zeta only
    lift_lets
    intro k1 ac2 jp2 out2 na2
    have J2 : ∀ u i, PartR r la lb (la.take i) (lb.take nb) u.toList.reverse → 0 < i → i ≤ la.length → (∀ x ∈ la.take i, r x < r lb[nb - 1]) → o.size + 1 ≤ u.size → wpS (model prog w) A E s (jp2 () i u) Q' (SortSt.mk' (kindOf st2) (arrOf st2) (pendingOf st2) g' (failedOf st2)) := fun u i P hi0 hi lt hz => by
      have hi' : i - 1 < la.length := by omega
      refine wpS_bind (elem_is (α := Unit) (x := lb[nb - 1]) (by show b[nb - 1]? = _; rw [geb, List.getElem?_eq_getElem hib]) ?_)
      have P' : PartR r la lb (la.take i) (lb.take (nb - 1)) (u.push lb[nb - 1]).toList.reverse := tkB P (by omega) (fun v hv x hx => by
        rw [one (by omega) h3, List.mem_singleton] at hx
        subst hx
        exact lt v hv) (by rw [one (by omega) h3, Array.toList_push, List.reverse_append]; rfl)
      have sz := Array.size_push lb[nb - 1] (xs := u)
      refine wp_if (fun e => wpS_pure (fD L3 rfl (fin3 P' (by have : nb - 1 = 1 := beq_iff_eq.mp e; exact this)))) fun e => ?_
      have e : ¬ nb - 1 = 1 := fun z => e (beq_iff_eq.mpr z)
      refine wpS_bind (elem_is (α := Unit) (x := la[i - 1]) (by show a[i - 1]? = _; rw [gea, List.getElem?_eq_getElem hi']) ?_)
      refine wpS_bind (leap_is ask (L3.kd.trans hk) (l := lb.take (nb - 1)) (front geb) (by show _ = nb - 1; rw [List.length_take]; omega) (fun x hx => gb x (List.mem_of_mem_take hx)) (ga _ (List.getElem_mem _)) (rb.take) (fun x hx z => ne _ (List.getElem_mem _) x (List.mem_of_mem_take hx) z.symm) (by show nb - 1 - 1 < nb - 1; omega) fun t' q1 q2 q3 => ?_)
      rw [List.take_take] at q2
      have q1 : t' ≤ nb - 1 := q1
      rw [Nat.min_eq_left q1] at q2
      dsimp -zeta only
      lift_lets
      intro k2 bc2 jp3 out3 nb3
      have J3 : ∀ u j, PartR r la lb (la.take i) (lb.take j) u.toList.reverse → 1 < j → j ≤ lb.length → (∀ x ∈ lb.take j, r x < r la[i - 1]) → o.size + 1 ≤ u.size → wpS (model prog w) A E s (jp3 () j u) Q' (SortSt.mk' (kindOf st2) (arrOf st2) (pendingOf st2) g' (failedOf st2)) := fun u j P hj0 hj lt hz => by
        refine wpS_bind (elem_is (α := Unit) (x := la[i - 1]) (by show a[i - 1]? = _; rw [gea, List.getElem?_eq_getElem hi']) ?_)
        have P' : PartR r la lb (la.take (i - 1)) (lb.take j) (u.push la[i - 1]).toList.reverse := tkA P (by omega) (fun v hv x hx => by
          rw [one hi0 hi, List.mem_singleton] at hx
          subst hx
          exact lt v hv) (by rw [one hi0 hi, Array.toList_push, List.reverse_append]; rfl)
        have sz := Array.size_push la[i - 1] (xs := u)
        refine wp_if (fun e => wpS_pure (fD L3 rfl (fin1 P' (by have : i - 1 = 0 := beq_iff_eq.mp e; exact this)))) fun e => ?_
        have e : ¬ i - 1 = 0 := fun z => e (beq_iff_eq.mpr z)
        have F := fun {g ac bc} => fN (g := g) (ac := ac) (bc := bc) L3 P' (by omega) (by omega) hj0 hj (by omega)
        exact wp_if (fun _ => wpS_pure F.1) fun _ => wpS_pure F.2
      have P2 : PartR r la lb (la.take i) (lb.take t') (u.push lb[nb - 1] ++ (b.extract t' (nb - 1)).reverse).toList.reverse := tkB P' q1 (fun v hv x hx => by
        have := q3 x hx
        rcases hd hi0 hi ra v hv with z | z
        · rw [z]; exact this
        · omega) (by rw [Array.toList_append, Array.toList_reverse, List.reverse_append, List.reverse_reverse, ext_mid, eb])
      have z2 : (u.push lb[nb - 1]).size ≤ (u.push lb[nb - 1] ++ (b.extract t' (nb - 1)).reverse).size := by rw [Array.size_append]; omega
      refine wp_if (fun k0 => wp_if (fun e => wpS_pure (fD L3 rfl (fin3 P2 (by have : t' = 1 := beq_iff_eq.mp e; exact this)))) fun e => wp_if (fun e' => wpS_pure (fD L3 rfl (fin2 P2 (by have : t' = 0 := beq_iff_eq.mp e'; exact this)))) fun e' => ?_) fun k0 => ?_
      · have e : ¬ t' = 1 := fun z => e (beq_iff_eq.mpr z)
        have e' : ¬ t' = 0 := fun z => e' (beq_iff_eq.mpr z)
        exact J3 _ _ P2 (by show 1 < t'; omega) (by show t' ≤ _; omega) q2 (by show _ ≤ (u.push lb[nb - 1] ++ (b.extract t' (nb - 1)).reverse).size; omega)
      · have k0 : t' = nb - 1 := by have : ¬ nb - 1 - t' > 0 := k0; omega
        subst k0
        exact J3 _ _ P' (by show 1 < nb - 1; omega) (by show nb - 1 ≤ _; omega) q2 (by show _ ≤ (u.push lb[nb - 1]).size; omega)
    have P2 : PartR r la lb (la.take t) (lb.take nb) (o' ++ (a.extract t na).reverse).toList.reverse := tkA P t1 (fun v hv u hu => by
      have := t3 u hu
      rcases hd (by omega) h3 rb v hv with z | z
      · rw [z]; exact this
      · omega) (by rw [Array.toList_append, Array.toList_reverse, List.reverse_append, List.reverse_reverse, ext_mid, ea])
    have z2 : o'.size ≤ (o' ++ (a.extract t na).reverse).size := by rw [Array.size_append]; omega
    refine wp_if (fun k0 => wp_if (fun e => wpS_pure (fD L3 rfl (fin1 P2 (by have : t = 0 := beq_iff_eq.mp e; exact this)))) fun e => ?_) fun k0 => ?_
    · have e : ¬ t = 0 := fun z => e (beq_iff_eq.mpr z)
      exact J2 _ _ P2 (by show 0 < t; omega) (by show t ≤ _; omega) t2 (by show _ ≤ (o' ++ (a.extract t na).reverse).size; omega)
    · have k0 : t = na := by have : ¬ na - t > 0 := k0; omega
      subst k0
      exact J2 _ _ P h0 h1 t2 h4
  · rintro c st' ⟨L2, o', na, nb, g, ac, bc, rfl, P, h0, h1, h2, h3, h4⟩
    exact ⟨L2, .inr ⟨_, _, _, _, _, _, rfl, P, h0, h1, h2, h3, h4⟩⟩
  rintro c st' ⟨L2, ⟨w1, e, W⟩ | ⟨o', na, nb, g, ac, bc, rfl, P, h0, h1, h2, h3, h5⟩⟩
  · obtain ⟨c1, c2⟩ := c
    obtain rfl : c1 = some w1 := e
    exact wpS_pure ⟨L2, _, rfl, W⟩
  refine wpS_bind (wpS_modify (wpS_pure ⟨⟨L2.kd, L2.ar, L2.pd, L2.fl⟩, _, _, _, _, rfl, P, h0, h1, h2, h3, (by try dsimp only; omega)⟩))
end
end L2
end
section
/-! Two runs side by side become one; a run found, made longer. -/
namespace L2
open PySem PySem.W PyProof.Rows
set_option maxHeartbeats 4000000
set_option maxRecDepth 100000
set_option Elab.async false
set_option linter.unusedVariables false
theorem laid_over {sa : Nat} : ∀ (l : List Keyed) (n : Nat) (p : Array Keyed) (x m y : List Keyed), p.toList = x ++ m ++ y → x.length = sa + n → m.length = l.length →
    ((l.zipIdx n).foldl (fun q (z : Keyed × Nat) => q.setIfInBounds (sa + z.2) z.1) p).toList = x ++ l ++ y
  | [], n, p, x, m, y, e, _, h => by
    have : m = [] := List.eq_nil_of_length_eq_zero h
    subst this
    exact e
  | a :: l, n, p, x, m, y, e, hx, h => by
    cases m with
    | nil => simp at h
    | cons b m =>
      rw [List.zipIdx_cons, List.foldl_cons]
      have := laid_over (sa := sa) l (n + 1) (p.setIfInBounds (sa + n) a) (x ++ [a]) m y (by
        rw [Array.toList_setIfInBounds, e, ← hx]
        simp) (by rw [List.length_append, hx]; rfl) (by simpa using h)
      rw [this]
      simp
section
variable {prog : Program} {w : World} {A : Around} {E : Value → Shared → Prop} {s : Shared} {kd : SortKind} {G : Keyed → Prop} {r : Keyed → Int} {st : SortSt}
theorem wpS_put {M : Model} {σ : Type} {a b : σ} {Q : PUnit → σ → Prop} (h : Q ⟨⟩ b) : wpS M A E s (set b : StateT σ Sem PUnit) Q a := by
  unfold wpS; rw [StateT.run_set]; exact wpAny_pure ⟨rfl, h⟩
theorem wp_at {α : Type} {m : StateT SortSt Sem α} {M : Model} {Q : α → SortSt → Prop} (P : SortSt → Prop) (h0 : P st) (h : ∀ st1, P st1 → wpS M A E s m Q st1) : wpS M A E s m Q st := h _ h0
theorem one_run (ask : Asks prog w A s kd G r) (hk : kindOf st = kd) (hf : failedOf st = none) {i p p' : Nat} {pre x y post : List Keyed} {Q : Bool → SortSt → Prop} (ar : (arrOf st).toList = pre ++ x ++ y ++ post) (x0 : 0 < x.length) (y0 : 0 < y.length) (rx : Ris r x) (ry : Ris r y)
    (gx : ∀ u ∈ x, G u) (gy : ∀ u ∈ y, G u) (ne : ∀ u ∈ x, ∀ v ∈ y, r u ≠ r v) (h1 : (pendingOf st)[i]? = some (pre.length, x.length, p)) (h2 : (pendingOf st)[i + 1]? = some (pre.length + x.length, y.length, p'))
    (q : ∀ (st' : SortSt) (z : List Keyed), kindOf st' = kd → failedOf st' = none → pendingOf st' = ((pendingOf st).setIfInBounds i (pre.length, x.length + y.length, p)).eraseIdxIfInBounds (i + 1) → (arrOf st').toList = pre ++ z ++ post → z.Perm (x ++ y) → Ris r z → Q true st') : wpS (model prog w) A E s (mergeAt' i) Q st := by
  have gea : ∀ j, (arrOf st)[j]? = (pre ++ (x ++ (y ++ post)))[j]? := fun j => by rw [← Array.getElem?_toList, ar, List.append_assoc (pre ++ x) y post, List.append_assoc pre x]
  have gx' : ∀ j, j < x.length → (arrOf st)[pre.length + j]? = x[j]? := fun j hj => by
    rw [gea, List.getElem?_append_right (by omega), show pre.length + j - pre.length = j by omega, List.getElem?_append_left hj]
  have gy' : ∀ j, j < y.length → (arrOf st)[pre.length + x.length + j]? = y[j]? := fun j hj => by
    rw [gea, List.getElem?_append_right (by omega), List.getElem?_append_right (by omega), show pre.length + x.length + j - pre.length - x.length = j by omega, List.getElem?_append_left hj]
  refine wpS_bind (wpS_get ?_)
  dsimp -zeta only
  rw [h1, h2]
  dsimp -zeta only
  refine wpS_bind (wpS_put ?_)
  refine wp_at (fun st1 => kindOf st1 = kd ∧ failedOf st1 = none ∧ pendingOf st1 = ((pendingOf st).setIfInBounds i (pre.length, x.length + y.length, p)).eraseIdxIfInBounds (i + 1) ∧ arrOf st1 = arrOf st) ⟨hk, hf, rfl, rfl⟩ ?_
  rintro st1 ⟨k1, f1, p1, a1⟩
  refine wpS_bind (elem_is (α := Unit) (x := y[0]) (by have := gy' 0 y0; rw [Nat.add_zero, List.getElem?_eq_getElem y0] at this; exact this) ?_)
  refine wpS_bind (leap_is ask k1 (key := y[0]) (l := x) gx' rfl gx (gy _ (List.getElem_mem _)) rx (fun u hu => ne u hu _ (List.getElem_mem _)) x0 fun t t1 t2 t3 => ?_)
  have yhd : ∀ v ∈ y, v = y[0] ∨ r y[0] < r v := fun v hv => by
    cases y with
    | nil => simp at hv
    | cons b y =>
      rcases List.mem_cons.mp hv with z | z
      · exact .inl z
      · exact .inr ((List.pairwise_cons.mp ry).1 v z)
  refine wp_if (fun e => wpS_pure ?_) fun e => ?_
  · have e : t = x.length := by have := beq_iff_eq.mp e; omega
    rw [e, List.take_length] at t2
    refine q st1 (x ++ y) k1 f1 p1 (by rw [a1, ar, List.append_assoc pre x y]) (List.Perm.refl _) (List.pairwise_append.mpr ⟨rx, ry, fun u hu v hv => ?_⟩)
    have := t2 u hu
    rcases yhd v hv with z | z
    · rw [z]; exact this
    · omega
  have e : t < x.length := by have : ¬ x.length - t = 0 := fun z => e (beq_iff_eq.mpr z); omega
  have lx : x.length - 1 < x.length := by omega
  refine wpS_bind (elem_is (α := Unit) (x := x[x.length - 1]) (by
    rw [show pre.length + t + (x.length - t) - 1 = pre.length + (x.length - 1) by omega]
    have := gx' (x.length - 1) lx
    rw [List.getElem?_eq_getElem lx] at this
    exact this) ?_)
  refine wpS_bind (leap_is ask k1 (key := x[x.length - 1]) (l := y) gy' rfl gy (gx _ (List.getElem_mem _)) ry (fun u hu z => ne _ (List.getElem_mem _) u hu z.symm) (by omega) fun t' q1 q2 q3 => ?_)
  have xl : x[x.length - 1] ∈ x.drop t := List.mem_drop_iff_getElem.mpr ⟨x.length - 1 - t, by omega, by congr 1; omega⟩
  have xtop : ∀ u ∈ x, u = x[x.length - 1] ∨ r u < r x[x.length - 1] := fun u hu => by
    have ee : x = x.take (x.length - 1) ++ [x[x.length - 1]] := by
      have := take_end (l := x) x0 (Nat.le_refl _)
      rwa [List.take_length] at this
    have rr := rx
    rw [ee] at rr
    have hu' : u ∈ x.take (x.length - 1) ++ [x[x.length - 1]] := by rw [← ee]; exact hu
    rcases List.mem_append.mp hu' with z | z
    · exact .inr ((List.pairwise_append.mp rr).2.2 u z _ (List.mem_singleton.mpr rfl))
    · exact .inl (List.mem_singleton.mp z)
  refine wp_if (fun e' => ?_) fun e' => ?_
  · have e' : t' = 0 := beq_iff_eq.mp e'
    rw [e', List.drop_zero] at q3
    have h3 := q3 y[0] (List.getElem_mem _)
    have h4 := t3 _ xl
    omega
  have e' : 0 < t' := by have : ¬ t' = 0 := fun z => e' (beq_iff_eq.mpr z); omega
  lift_lets
  intro xs ys jp
  have exs : xs.toList = x.drop t := by
    show ((arrOf st).extract (pre.length + t) (pre.length + x.length)).toList = _
    rw [ext_mid, ar]
    simp [List.take_append, List.drop_append, List.take_of_length_le]
  have eys : ys.toList = y.take t' := by
    show ((arrOf st).extract (pre.length + x.length) (pre.length + x.length + t')).toList = _
    rw [ext_list, ar, show pre ++ x ++ y ++ post = (pre ++ x) ++ (y ++ post) by simp, List.drop_append_of_le_length (by simp), List.drop_of_length_le (by simp), List.nil_append, List.take_append_of_le_length q1]
  have J : ∀ o st', Like st1 st' → Whole r xs.toList ys.toList o → wpS (model prog w) A E s (jp o) Q st' := fun o st' L W => by
    refine wpS_bind (wpS_modify (wpS_bind (wpS_get (wpS_pure ?_))))
    rw [exs, eys] at W
    have fl : failedOf st' = none := L.fl.trans f1
    have er : (failedOf st').isNone = true := by rw [fl]; rfl
    show Q (failedOf st').isNone _
    rw [er]
    have hin : ∀ u ∈ o.toList, u ∈ x.drop t ∨ u ∈ y.take t' := fun u hu => List.mem_append.mp (W.1.mem_iff.mp hu)
    refine q _ (x.take t ++ o.toList ++ y.drop t') (L.kd.trans k1) fl (L.pd.trans p1) ?_ ?_ ?_
    · show (o.toList.zipIdx.foldl (fun q (z : Keyed × Nat) => q.setIfInBounds (pre.length + t + z.2) z.1) (arrOf st')).toList = _
      rw [laid_over (sa := pre.length + t) o.toList 0 (arrOf st') (pre ++ x.take t) (x.drop t ++ y.take t') (y.drop t' ++ post) ?_ ?_ ?_]
      · simp [List.append_assoc]
      · rw [L.ar, a1, ar]
        rw [show pre ++ x ++ y ++ post = pre ++ (x.take t ++ x.drop t) ++ (y.take t' ++ y.drop t') ++ post by rw [List.take_append_drop, List.take_append_drop]]
        simp only [List.append_assoc]
      · simp; omega
      · rw [W.1.length_eq]
    · refine List.Perm.trans (List.Perm.append_right _ (List.Perm.append_left _ W.1)) ?_
      rw [show x.take t ++ (x.drop t ++ y.take t') ++ y.drop t' = (x.take t ++ x.drop t) ++ (y.take t' ++ y.drop t') by simp only [List.append_assoc], List.take_append_drop, List.take_append_drop]
    · have s1 : Ris r (x.take t ++ x.drop t) := by rw [List.take_append_drop]; exact rx
      have s2 : Ris r (y.take t' ++ y.drop t') := by rw [List.take_append_drop]; exact ry
      have s1 := List.pairwise_append.mp s1
      have s2 := List.pairwise_append.mp s2
      have c1 : ∀ u ∈ x.take t, ∀ v ∈ y, r u < r v := fun u hu v hv => by
        have := t2 u hu
        rcases yhd v hv with z | z
        · rw [z]; exact this
        · omega
      have c2 : ∀ u ∈ x, ∀ v ∈ y.drop t', r u < r v := fun u hu v hv => by
        have := q3 v hv
        rcases xtop u hu with z | z
        · rw [z]; exact this
        · omega
      refine List.pairwise_append.mpr ⟨List.pairwise_append.mpr ⟨s1.1, W.2, fun u hu v hv => ?_⟩, s2.2.1, fun u hu v hv => ?_⟩
      · rcases hin v hv with z | z
        · exact s1.2.2 u hu v z
        · exact c1 u hu v (List.mem_of_mem_take z)
      · rcases List.mem_append.mp hu with z | z
        · exact c2 u (List.mem_of_mem_take z) v hv
        · rcases hin u z with z | z
          · exact c2 u (List.mem_of_mem_drop z) v hv
          · exact s2.2.2 u z v hv
  have sx : 0 < xs.size := by rw [← Array.length_toList, exs, List.length_drop]; omega
  have sy : 0 < ys.size := by rw [← Array.length_toList, eys, List.length_take]; omega
  have go1 : Ris r xs.toList := by rw [exs]; exact rx.drop
  have go2 : Ris r ys.toList := by rw [eys]; exact ry.take
  have go3 : ∀ u ∈ xs.toList, G u := fun u hu => by rw [exs] at hu; exact gx u (List.mem_of_mem_drop hu)
  have go4 : ∀ u ∈ ys.toList, G u := fun u hu => by rw [eys] at hu; exact gy u (List.mem_of_mem_take hu)
  have go5 : ∀ u ∈ xs.toList, ∀ v ∈ ys.toList, r u ≠ r v := fun u hu v hv => by rw [exs] at hu; rw [eys] at hv; exact ne u (List.mem_of_mem_drop hu) v (List.mem_of_mem_take hv)
  have go6 : ∀ u ∈ xs.toList, ∀ v, ys[0]? = some v → r v < r u := fun u hu v hv => by
    rw [exs] at hu
    rw [← Array.getElem?_toList, eys, List.getElem?_take, if_pos e', List.getElem?_eq_getElem y0] at hv
    cases hv
    exact t3 u hu
  have go7 : ∀ z, xs[xs.size - 1]? = some z → ∀ v ∈ ys.toList, r v < r z := fun z hz v hv => by
    rw [eys] at hv
    rw [← Array.getElem?_toList, exs, ← Array.length_toList, exs, List.length_drop, List.getElem?_drop, show t + (x.length - t - 1) = x.length - 1 by omega, List.getElem?_eq_getElem lx] at hz
    cases hz
    exact q2 v hv
  exact wp_if (fun _ => wpS_bind (joinL_is ask k1 sx sy go1 go2 go3 go4 go5 go6 go7 J)) fun _ => wpS_bind (joinR_is ask k1 sx sy go1 go2 go3 go4 go5 go6 go7 J)
end
end L2
end
section
/-! A run found, a run made longer. -/
namespace L2
open PySem PySem.W PyProof.Rows
set_option maxHeartbeats 4000000
set_option maxRecDepth 100000
set_option Elab.async false
set_option linter.unusedVariables false
theorem mir_list {p : Array Keyed} {pre l : List Keyed} {n : Nat} (e : p.toList = pre ++ l) (hn : n ≤ l.length) : (mirror p pre.length (pre.length + n) ((pre.length + n - pre.length) / 2)).toList = pre ++ ((l.take n).reverse ++ l.drop n) := by
  have sz : p.size = pre.length + l.length := by rw [← Array.length_toList, e, List.length_append]
  have ge : ∀ j : Nat, p[j]? = (pre ++ l)[j]? := fun j => by rw [← Array.getElem?_toList, e]
  apply List.ext_getElem?
  intro k
  rw [Array.getElem?_toList, getElem?_mirror_all (by omega)]
  by_cases c : k < pre.length
  · rw [if_neg (by omega), ge, List.getElem?_append_left c, List.getElem?_append_left c]
  · obtain ⟨j, rfl⟩ : ∃ j, k = pre.length + j := ⟨k - pre.length, by omega⟩
    rw [List.getElem?_append_right (by omega), show pre.length + j - pre.length = j by omega]
    by_cases c2 : j < n
    · rw [if_pos (by omega), ge, List.getElem?_append_right (by omega), List.getElem?_append_left (by rw [List.length_reverse, List.length_take]; omega), List.getElem?_reverse (by rw [List.length_take]; omega), List.length_take, Nat.min_eq_left hn, List.getElem?_take, if_pos (by omega)]
      congr 1
      omega
    · rw [if_neg (by omega), ge, List.getElem?_append_right (by omega), List.getElem?_append_right (by rw [List.length_reverse, List.length_take]; omega), List.length_reverse, List.length_take, Nat.min_eq_left hn, List.getElem?_drop]
      congr 1
      omega
theorem bub_list {p : Array Keyed} {pre l : List Keyed} {k t : Nat} (e : p.toList = pre ++ l) (hk : k < l.length) (ht : t ≤ k) : (bubble p (pre.length + k) (pre.length + k - (pre.length + t))).toList = pre ++ ((l.take k).take t ++ l[k] :: ((l.take k).drop t ++ l.drop (k + 1))) := by
  have sz : p.size = pre.length + l.length := by rw [← Array.length_toList, e, List.length_append]
  have ge : ∀ j : Nat, p[j]? = (pre ++ l)[j]? := fun j => by rw [← Array.getElem?_toList, e]
  rw [show pre.length + k - (pre.length + t) = k - t by omega]
  apply List.ext_getElem?
  intro j
  rw [Array.getElem?_toList, getElem?_bubble (by omega) _ (by omega)]
  by_cases c : j < pre.length
  · rw [if_neg (by omega), if_neg (by omega), ge, List.getElem?_append_left c, List.getElem?_append_left c]
  obtain ⟨i, rfl⟩ : ∃ i, j = pre.length + i := ⟨j - pre.length, by omega⟩
  rw [List.getElem?_append_right (by omega), show pre.length + i - pre.length = i by omega]
  have lt : ((l.take k).take t).length = t := by rw [List.length_take, List.length_take]; omega
  by_cases c1 : i < t
  · rw [if_neg (by omega), if_neg (by omega), ge, List.getElem?_append_right (by omega), List.getElem?_append_left (by omega), List.getElem?_take, if_pos c1, List.getElem?_take, if_pos (by omega)]
    congr 1
    omega
  rw [List.getElem?_append_right (by omega), lt]
  by_cases c2 : i = t
  · subst c2
    rw [if_pos (by omega), ge, List.getElem?_append_right (by omega), Nat.sub_self, List.getElem?_cons_zero, show pre.length + k - pre.length = k by omega, List.getElem?_eq_getElem hk]
  obtain ⟨m, rfl⟩ : ∃ m, i = t + (m + 1) := ⟨i - t - 1, by omega⟩
  rw [show t + (m + 1) - t = m + 1 by omega, List.getElem?_cons_succ, if_neg (by omega)]
  by_cases c3 : m < k - t
  · rw [if_pos (by omega), ge, List.getElem?_append_right (by omega), List.getElem?_append_left (by rw [List.length_drop, List.length_take]; omega), List.getElem?_drop, List.getElem?_take, if_pos (by omega)]
    congr 1
    omega
  · rw [if_neg (by omega), ge, List.getElem?_append_right (by omega), List.getElem?_append_right (by rw [List.length_drop, List.length_take]; omega), List.length_drop, List.length_take, List.getElem?_drop]
    congr 1
    omega
section
variable {r : Keyed → Int} {l : List Keyed}
/-- all unlike -/
abbrev Odd (r : Keyed → Int) (l : List Keyed) : Prop := l.Pairwise fun x y => r x ≠ r y
theorem Odd.at (h : Odd r l) {i j : Nat} (hi : i < l.length) (hj : j < l.length) (n : i ≠ j) : r l[i] ≠ r l[j] := by
  have := List.pairwise_iff_getElem.mp h
  rcases Nat.lt_or_gt_of_ne n with z | z
  · exact this i j hi hj z
  · exact fun e => this j i hj hi z e.symm
theorem Odd.perm {l' : List Keyed} (h : Odd r l) (p : l'.Perm l) : Odd r l' := (p.pairwise_iff fun {_ _} h e => h e.symm).mpr h
theorem ris_snoc {n : Nat} (h1 : 0 < n) (hn : n < l.length) (h : Ris r (l.take n)) (lt : r (l[n - 1]'(by omega)) < r l[n]) : Ris r (l.take (n + 1)) := by
  rw [List.take_succ_eq_append_getElem hn]
  refine List.pairwise_append.mpr ⟨h, List.pairwise_singleton _ _, fun u hu v hv => ?_⟩
  rw [List.mem_singleton.mp hv]
  rw [take_end h1 (by omega)] at h hu
  rcases List.mem_append.mp hu with z | z
  · have := (List.pairwise_append.mp h).2.2 u z _ (List.mem_singleton.mpr rfl)
    omega
  · rw [List.mem_singleton.mp z]; exact lt
theorem fall_snoc {n : Nat} (h1 : 0 < n) (hn : n < l.length) (h : Ris r (l.take n).reverse) (lt : r l[n] < r (l[n - 1]'(by omega))) : Ris r (l.take (n + 1)).reverse := by
  rw [List.take_succ_eq_append_getElem hn, List.reverse_append]
  refine List.pairwise_append.mpr ⟨List.pairwise_singleton _ _, h, fun u hu v hv => ?_⟩
  rw [List.mem_singleton.mp hu]
  rw [take_end h1 (by omega), List.reverse_append] at h hv
  rcases List.mem_append.mp hv with z | z
  · rw [List.mem_singleton.mp z]; exact lt
  · have := (List.pairwise_append.mp h).2.2 _ (List.mem_singleton.mpr rfl) v z
    omega
end
section
variable {prog : Program} {w : World} {A : Around} {E : Value → Shared → Prop} {s : Shared} {kd : SortKind} {G : Keyed → Prop} {r : Keyed → Int} {st : SortSt} {pre l : List Keyed}
theorem lt_in (ask : Asks prog w A s kd G r) (hk : kindOf st = kd) (ar : (arrOf st).toList = pre ++ l) (gl : ∀ x ∈ l, G x) {i j a b : Nat} (ha : a = pre.length + i) (hb : b = pre.length + j) (hi : i < l.length) (hj : j < l.length) {Q : Option Bool → SortSt → Prop} (q : Q (some (decide (r l[i] < r l[j]))) st) : wpS (model prog w) A E s (ltAt' a b) Q st := by
  have ge : ∀ k, (hk : k < l.length) → (arrOf st)[pre.length + k]? = some l[k] := fun k hk => by rw [← Array.getElem?_toList, ar, List.getElem?_append_right (by omega), show pre.length + k - pre.length = k by omega, List.getElem?_eq_getElem hk]
  subst ha hb
  rw [ltAt'_eq]
  exact wpS_bind (wpS_get (wpS_bind (elem_is (α := Unit) (ge i hi) (wpS_bind (elem_is (α := Unit) (ge j hj) (ask _ _ _ _ _ (gl _ (List.getElem_mem _)) (gl _ (List.getElem_mem _)) hk q))))))
/-- but for the gallop and what is behind -/
structure Near (st st' : SortSt) : Prop where
  kd : kindOf st' = kindOf st
  pd : pendingOf st' = pendingOf st
  fl : failedOf st' = failedOf st
theorem run_on (ask : Asks prog w A s kd G r) (hk : kindOf st = kd) (ar : (arrOf st).toList = pre ++ l) (gl : ∀ x ∈ l, G x) (od : Odd r l) {n0 : Nat} (h0 : 0 < n0) (hn : n0 ≤ l.length) (ri : Ris r (l.take n0)) : wpS (model prog w) A E s (forIn [n0:l.length] ((none, n0) : Option (Option Nat) × Nat) fun (x : Nat) c => ltAt' (pre.length + c.2) (pre.length + c.2 - 1) >>= fun y => match y with
      | some sm => if sm = true then pure (ForInStep.done (none, c.2)) else pure (ForInStep.yield (none, c.2 + 1))
      | _ => pure (ForInStep.done (some none, c.2))) (fun c st' => st' = st ∧ ∃ n, c = (none, n) ∧ n0 ≤ n ∧ n ≤ l.length ∧ Ris r (l.take n) ∧ ∀ h : n < l.length, r l[n] < r (l[n - 1]'(by omega))) st := by
  refine wpS_forRange (I := fun i c st' => st' = st ∧ c = (none, i) ∧ Ris r (l.take i)) ?_ ?_ ⟨rfl, rfl, ri⟩
  · rintro i c st' h1 h2 ⟨rfl, rfl, ri⟩
    refine wpS_bind (lt_in ask hk ar gl (i := i) (j := i - 1) rfl (by dsimp only; omega) h2 (by omega) ?_)
    by_cases c : r l[i] < r l[i - 1]
    · rw [decide_eq_true c]
      exact wpS_pure ⟨rfl, i, rfl, h1, by omega, ri, fun _ => c⟩
    · rw [decide_eq_false c]
      have := od.at h2 (show i - 1 < l.length by omega) (by omega)
      exact wpS_pure ⟨rfl, rfl, ris_snoc (by omega) h2 ri (by omega)⟩
  · rintro c st' ⟨rfl, rfl, ri⟩
    rw [Nat.max_eq_right hn] at ri ⊢
    exact ⟨rfl, _, rfl, hn, Nat.le_refl _, ri, fun h => absurd h (Nat.lt_irrefl _)⟩
theorem run_found (ask : Asks prog w A s kd G r) (hk : kindOf st = kd) (ar : (arrOf st).toList = pre ++ l) (gl : ∀ x ∈ l, G x) (od : Odd r l) (l0 : 0 < l.length) {Q : Option Nat → SortSt → Prop}
    (q : ∀ (st' : SortSt) (l' : List Keyed) (n : Nat), Near st st' → (arrOf st').toList = pre ++ l' → l'.Perm l → 0 < n → n ≤ l'.length → Ris r (l'.take n) → Q (some n) st') : wpS (model prog w) A E s (countRun' pre.length l.length) Q st := by
  have one : Ris r (l.take 1) := by
    cases l with
    | nil => simp at l0
    | cons a l => exact List.pairwise_singleton _ _
  refine wpS_bind (wpS_mono (run_on ask hk ar gl od (n0 := 1) (by omega) l0 one) ?_)
  rintro c st1 ⟨rfl, n, rfl, h1, h2, ri, nx⟩
  dsimp -zeta only
  refine wp_if (fun e => wpS_pure (q _ l n ⟨rfl, rfl, rfl⟩ ar (List.Perm.refl _) h1 h2 ri)) fun e => ?_
  have e : n < l.length := by have : ¬ n = l.length := fun z => e (beq_iff_eq.mpr z); omega
  lift_lets
  intro jp
  refine wp_if (fun c => ?_) fun c => ?_
  · refine wpS_bind (lt_in ask hk ar gl (i := 0) (j := n - 1) (by omega) (by omega) (by omega) (by omega) ?_)
    have lt : r l[0] < r l[n - 1] := by
      have := List.pairwise_iff_getElem.mp ri 0 (n - 1) (by rw [List.length_take]; omega) (by rw [List.length_take]; omega) (by omega)
      simpa using this
    rw [decide_eq_true lt]
    exact wp_if (fun _ => wpS_pure (q _ l n ⟨rfl, rfl, rfl⟩ ar (List.Perm.refl _) h1 h2 ri)) fun z => absurd rfl z
  have n1 : n = 1 := by omega
  subst n1
  have fall2 : Ris r (l.take 2).reverse := fall_snoc (n := 1) (by omega) e (by
    cases l with
    | nil => simp at l0
    | cons a l => exact List.pairwise_singleton _ _) (nx e)
  refine wpS_bind (wpS_lift (wpAny_rule ⟨rfl, ?_⟩))
  refine wpS_bind (wpS_mono (wpS_forRange (I := fun i c st' => st' = st1 ∧ c = (none, i, 0) ∧ Ris r (l.take i).reverse) (Q := fun c st' => st' = st1 ∧ ∃ n, c = (none, n, 0) ∧ 2 ≤ n ∧ n ≤ l.length ∧ Ris r (l.take n).reverse) ?_ ?_ ⟨rfl, rfl, fall2⟩) ?_)
  · rintro i c st' g1 g2 ⟨rfl, rfl, fa⟩
    refine wpS_bind (lt_in ask hk ar gl (i := i) (j := i - 1) rfl (by dsimp only; omega) g2 (by omega) ?_)
    have nn := od.at g2 (show i - 1 < l.length by omega) (by omega)
    by_cases c : r l[i] < r l[i - 1]
    · rw [decide_eq_true c]
      refine wp_if (fun _ => wp_if (fun z => absurd z (by show ¬ (0 : Nat) > 0; omega)) fun _ => wpS_pure ⟨rfl, rfl, fall_snoc (by omega) g2 fa c⟩) fun z => absurd rfl z
    · rw [decide_eq_false c]
      refine wp_if (fun z => absurd z Bool.false_ne_true) fun _ => wpS_bind (lt_in ask hk ar gl (i := i - 1) (j := i) (by dsimp only; omega) rfl (by omega) g2 ?_)
      rw [decide_eq_true (by omega)]
      exact wp_if (fun _ => wpS_pure ⟨rfl, i, rfl, g1, by omega, fa⟩) fun z => absurd rfl z
  · rintro c st' ⟨rfl, rfl, fa⟩
    rw [Nat.max_eq_right (by omega)] at fa ⊢
    exact ⟨rfl, _, rfl, by omega, Nat.le_refl _, fa⟩
  · rintro c st' ⟨rfl, n, rfl, g1, g2, fa⟩
    dsimp -zeta only
    lift_lets
    intro jp2
    refine wp_if (fun z => absurd z (by show ¬ (0 : Nat) > 0; omega)) fun _ => ?_
    refine wpS_bind (wpS_reverse ?_)
    have ar2 := mir_list (n := n) ar g2
    have pl : ((l.take n).reverse ++ l.drop n).Perm l := by
      refine List.Perm.trans (List.Perm.append_right _ (List.reverse_perm _)) ?_
      rw [List.take_append_drop]
    have ln : ((l.take n).reverse ++ l.drop n).length = l.length := pl.length_eq
    have tk : ((l.take n).reverse ++ l.drop n).take n = (l.take n).reverse := by
      rw [List.take_append_of_le_length (by rw [List.length_reverse, List.length_take]; omega), List.take_of_length_le (by rw [List.length_reverse, List.length_take]; omega)]
    refine wp_at (fun st2 => Near st' st2 ∧ (arrOf st2).toList = pre ++ ((l.take n).reverse ++ l.drop n)) ⟨⟨rfl, rfl, rfl⟩, ar2⟩ ?_
    rintro st2 ⟨N, ar3⟩
    generalize (l.take n).reverse ++ l.drop n = l2 at ar3 pl ln tk
    have go := wpS_mono (Q' := fun c st3 => st3 = st2 ∧ ∃ m, c = (none, m) ∧ n ≤ m ∧ m ≤ l2.length ∧ Ris r (l2.take m)) (run_on ask (N.kd.trans hk) ar3 (fun x hx => gl x (pl.mem_iff.mp hx)) (od.perm pl) (n0 := n) (E := E) (by omega) (by omega) (by rw [tk]; exact fa)) (fun c st3 ⟨z0, m, z1, z2, z3, z4, _⟩ => ⟨z0, m, z1, z2, z3, z4⟩)
    rw [ln] at go
    refine wpS_bind (wpS_mono go ?_)
    rintro c st3 ⟨rfl, m, rfl, m1, m2, ri⟩
    exact wpS_pure (q _ l2 m N ar3 pl (by omega) (by omega) ri)
theorem run_longer (ask : Asks prog w A s kd G r) (hk : kindOf st = kd) (ar : (arrOf st).toList = pre ++ l) (gl : ∀ x ∈ l, G x) (od : Odd r l) {n ok : Nat} (h1 : 0 < ok) (h2 : ok ≤ n) (h3 : n ≤ l.length) (ri : Ris r (l.take ok)) {Q : Bool → SortSt → Prop}
    (q : ∀ (st' : SortSt) (l' : List Keyed), Near st st' → (arrOf st').toList = pre ++ l' → l'.Perm l → Ris r (l'.take n) → Q true st') : wpS (model prog w) A E s (binarySort' pre.length n ok) Q st := by
  refine wpS_bind (wpS_mono (wpS_forRange (I := fun k c st' => c = (none, ()) ∧ Near st st' ∧ ∃ l', (arrOf st').toList = pre ++ l' ∧ l'.Perm l ∧ Ris r (l'.take k)) (Q := fun c st' => c = (none, ()) ∧ Near st st' ∧ ∃ l', (arrOf st').toList = pre ++ l' ∧ l'.Perm l ∧ Ris r (l'.take n)) ?_ ?_ ⟨rfl, ⟨rfl, rfl, rfl⟩, l, ar, List.Perm.refl _, by rw [Nat.max_eq_left h1]; exact ri⟩) ?_)
  · rintro k c st1 g1 g2 ⟨rfl, N, l1, ar1, pm, ri⟩
    have ln := pm.length_eq
    have hk1 : k < l1.length := by omega
    have gl1 : ∀ x ∈ l1, G x := fun x hx => gl x (pm.mem_iff.mp hx)
    have od1 := od.perm pm
    have lk : (l1.take k).length = k := by rw [List.length_take]; omega
    obtain ⟨t, t1, t2, t3⟩ := thr (k := r l1[k]) ri fun x hx => by
      obtain ⟨i, hi, rfl⟩ := List.mem_take_iff_getElem.mp hx
      exact od1.at (by omega) hk1 (by omega)
    rw [lk] at t1
    have at_ : ∀ m, (hm : m < k) → decide (r l1[k] < r (l1[m]'(by omega))) = decide (t ≤ m) := fun m hm => by
      by_cases c : t ≤ m
      · rw [decide_eq_true c]
        exact decide_eq_true (t3 _ (List.mem_drop_iff_getElem.mpr ⟨m - t, by omega, by rw [List.getElem_take]; congr 1; omega⟩))
      · rw [decide_eq_false c]
        have := t2 (l1[m]'(by omega)) (List.mem_take_iff_getElem.mpr ⟨m, by omega, by rw [List.getElem_take]⟩)
        exact decide_eq_false (by omega)
    refine wpS_bind (wpS_mono (wpS_forRange (I := fun i c st' => st' = st1 ∧ ∃ a b, c = (none, a, b) ∧ a ≤ t ∧ t ≤ b ∧ b ≤ k ∧ b - a + i ≤ k) (Q := fun c st' => st' = st1 ∧ ∃ b, c = (none, t, b)) ?_ ?_ ⟨rfl, _, _, rfl, Nat.zero_le _, t1, Nat.le_refl _, by omega⟩) ?_)
    · rintro i c st' _ hi ⟨rfl, a, b, rfl, a1, a2, a3, a4⟩
      refine wp_if (fun c => ?_) fun c => ?_
      · have c : a ≥ b := c
        obtain rfl : a = t := by omega
        exact wpS_pure ⟨rfl, _, rfl⟩
      have c : ¬ a ≥ b := c
      refine wpS_bind (lt_in ask (N.kd.trans hk) ar1 gl1 (i := k) (j := (a + b) / 2) rfl rfl hk1 (by omega) ?_)
      rw [at_ ((a + b) / 2) (by omega)]
      by_cases c2 : t ≤ (a + b) / 2
      · rw [decide_eq_true c2]
        exact wp_if (fun _ => wpS_pure ⟨rfl, _, _, rfl, a1, c2, (by dsimp only; omega), (by dsimp only; omega)⟩) fun z => absurd rfl z
      · rw [decide_eq_false c2]
        exact wp_if (fun z => absurd z Bool.false_ne_true) fun _ => wpS_pure ⟨rfl, _, _, rfl, (by dsimp only; omega), a2, a3, (by dsimp only; omega)⟩
    · rintro c st' ⟨rfl, a, b, rfl, a1, a2, a3, a4⟩
      obtain rfl : a = t := by omega
      exact ⟨rfl, _, rfl⟩
    · rintro c st' ⟨rfl, b, rfl⟩
      rw [← lk] at t1
      have ar2 := bub_list (k := k) (t := t) ar1 hk1 (by omega)
      have pm2 : ((l1.take k).take t ++ l1[k] :: ((l1.take k).drop t ++ l1.drop (k + 1))).Perm l1 := by
        refine List.Perm.trans List.perm_middle ?_
        rw [← List.append_assoc, List.take_append_drop]
        have := List.perm_middle (l₁ := l1.take k) (a := l1[k]) (l₂ := l1.drop (k + 1))
        refine this.symm.trans ?_
        rw [← List.drop_eq_getElem_cons hk1, List.take_append_drop]
      refine wpS_bind (wpS_modify (wpS_pure ⟨rfl, ⟨N.kd, N.pd, N.fl⟩, _, ar2, pm2.trans pm, ?_⟩))
      have e : ((l1.take k).take t ++ l1[k] :: ((l1.take k).drop t ++ l1.drop (k + 1))).take (k + 1) = (l1.take k).take t ++ l1[k] :: (l1.take k).drop t := by
        rw [← List.cons_append, ← List.append_assoc]
        exact List.take_left' (by simp only [List.length_append, List.length_cons, List.length_drop, List.length_take]; omega)
      rw [e]
      have r1 : Ris r ((l1.take k).take t ++ (l1.take k).drop t) := by rw [List.take_append_drop]; exact ri
      have r1 := List.pairwise_append.mp r1
      refine List.pairwise_append.mpr ⟨r1.1, List.pairwise_cons.mpr ⟨fun v hv => t3 v hv, r1.2.1⟩, fun u hu v hv => ?_⟩
      rcases List.mem_cons.mp hv with z | z
      · rw [z]; exact t2 u hu
      · exact r1.2.2 u hu v z
  · rintro c st' ⟨rfl, N, l1, ar1, pm, ri⟩
    rw [show max (max ok 1) n = n by omega] at ri
    exact ⟨rfl, N, l1, ar1, pm, ri⟩
  · rintro c st' ⟨rfl, N, l1, ar1, pm, ri⟩
    exact wpS_pure (q _ l1 N ar1 pm ri)
end
end L2
end
section
/-! All runs, joined: sorted. -/
namespace L2
open PySem PySem.W PyProof.Rows
set_option maxHeartbeats 4000000
set_option maxRecDepth 100000
set_option Elab.async false
set_option linter.unusedVariables false
/-- where the runs begin, and how long they are -/
def starts : List (List Keyed) → Nat → List (Nat × Nat)
  | [], _ => []
  | x :: l, n => (n, x.length) :: starts l (n + x.length)
theorem starts_app : ∀ (a b : List (List Keyed)) (n : Nat), starts (a ++ b) n = starts a n ++ starts b (n + a.flatten.length)
  | [], b, n => by simp [starts]
  | x :: a, b, n => by
    rw [List.cons_append, starts, starts, starts_app a b, List.cons_append, List.flatten_cons, List.length_append, Nat.add_assoc]
theorem starts_len : ∀ (a : List (List Keyed)) (n : Nat), (starts a n).length = a.length
  | [], _ => rfl
  | x :: a, n => by rw [starts, List.length_cons, List.length_cons, starts_len a]
/-- what is pending are these runs -/
def Pend (p : Array (Nat × Nat × Nat)) (R : List (List Keyed)) : Prop := p.toList.map (fun x => (x.1, x.2.1)) = starts R 0
theorem Pend.size {p : Array (Nat × Nat × Nat)} {R : List (List Keyed)} (h : Pend p R) : p.size = R.length := by
  have := congrArg List.length h
  rw [List.length_map, starts_len, Array.length_toList] at this
  exact this
theorem Pend.push {p : Array (Nat × Nat × Nat)} {R : List (List Keyed)} (h : Pend p R) {x : List Keyed} {n m k : Nat} (hn : n = R.flatten.length) (hm : m = x.length) : Pend (p.push (n, m, k)) (R ++ [x]) := by
  unfold Pend
  rw [Array.toList_push, List.map_append, h, starts_app, hn, hm, Nat.zero_add]
  rfl
theorem map_modify' {α β : Type} {f : α → β} {g : α → α} (h : ∀ x, f (g x) = f x) : ∀ (l : List α) (i : Nat), (l.modify i g).map f = l.map f
  | [], i => by simp
  | a :: l, 0 => by simp [h]
  | a :: l, i + 1 => by simp [map_modify' h l i]
theorem Pend.pow {p : Array (Nat × Nat × Nat)} {R : List (List Keyed)} (h : Pend p R) {i : Nat} {g : Nat × Nat × Nat → Nat × Nat × Nat} (hg : ∀ x, ((g x).1, (g x).2.1) = (x.1, x.2.1)) : Pend (p.modify i g) R := by
  unfold Pend
  rw [Array.toList_modify, map_modify' (f := fun x : Nat × Nat × Nat => (x.1, x.2.1)) hg]
  exact h
theorem Pend.two {p : Array (Nat × Nat × Nat)} {R1 R2 : List (List Keyed)} {x y : List Keyed} (h : Pend p (R1 ++ x :: y :: R2)) :
    ∃ a b, p[R1.length]? = some (R1.flatten.length, x.length, a) ∧ p[R1.length + 1]? = some (R1.flatten.length + x.length, y.length, b) ∧
      ∀ z : List Keyed, z.length = x.length + y.length → Pend ((p.setIfInBounds R1.length (R1.flatten.length, x.length + y.length, a)).eraseIdxIfInBounds (R1.length + 1)) (R1 ++ z :: R2) := by
  unfold Pend at h
  rw [starts_app, Nat.zero_add, starts, starts] at h
  obtain ⟨P1, P', e, h1, h2⟩ := List.map_eq_append_iff.mp h
  obtain ⟨u, P'', e2, h3, h4⟩ := List.map_eq_cons_iff.mp h2
  obtain ⟨v, P2, e3, h5, h6⟩ := List.map_eq_cons_iff.mp h4
  obtain ⟨u1, u2, a⟩ := u
  obtain ⟨v1, v2, b⟩ := v
  simp only [Prod.mk.injEq] at h3 h5
  obtain ⟨rfl, rfl⟩ := h3
  obtain ⟨rfl, rfl⟩ := h5
  subst e3 e2
  have l1 : P1.length = R1.length := by
    have := congrArg List.length h1
    rw [List.length_map, starts_len] at this
    exact this
  refine ⟨a, b, ?_, ?_, fun z hz => ?_⟩
  · rw [← Array.getElem?_toList, e, ← l1, List.getElem?_append_right (Nat.le_refl _), Nat.sub_self]
    rfl
  · rw [← Array.getElem?_toList, e, ← l1, List.getElem?_append_right (by omega), show P1.length + 1 - P1.length = 1 by omega]
    rfl
  · unfold Pend
    have sz : p.size = P1.length + (P2.length + 2) := by rw [← Array.length_toList, e]; simp
    have e4 : ((p.setIfInBounds R1.length (R1.flatten.length, x.length + y.length, a)).eraseIdxIfInBounds (R1.length + 1)).toList = P1 ++ (R1.flatten.length, x.length + y.length, a) :: P2 := by
      rw [Array.eraseIdxIfInBounds, dif_pos (by rw [Array.size_setIfInBounds]; omega), Array.toList_eraseIdx, Array.toList_setIfInBounds, e, ← l1]
      simp [List.eraseIdx_append_of_length_le]
    rw [e4, List.map_append, List.map_cons, h1, h6, starts_app, Nat.zero_add, starts, hz, Nat.add_assoc]
section
variable {prog : Program} {w : World} {A : Around} {E : Value → Shared → Prop} {s : Shared} {kd : SortKind} {G : Keyed → Prop} {r : Keyed → Int} {st : SortSt}
/-- runs R, behind them l -/
structure Runs6 (kd : SortKind) (G : Keyed → Prop) (r : Keyed → Int) (a0 : List Keyed) (st : SortSt) (R : List (List Keyed)) (l : List Keyed) : Prop where
  kd : kindOf st = kd
  fl : failedOf st = none
  ar : (arrOf st).toList = R.flatten ++ l
  pm : (R.flatten ++ l).Perm a0
  pd : Pend (pendingOf st) R
  ri : ∀ x ∈ R, Ris r x ∧ 0 < x.length
theorem join_two (ask : Asks prog w A s kd G r) {a0 : List Keyed} (ga : ∀ x ∈ a0, G x) (od : Odd r a0) {R : List (List Keyed)} {l : List Keyed} (h : Runs6 kd G r a0 st R l) {i : Nat} (hi : i + 1 < R.length) {Q : Bool → SortSt → Prop}
    (q : ∀ (st' : SortSt) (R' : List (List Keyed)), Runs6 kd G r a0 st' R' l → R'.length + 1 = R.length → R'.flatten.length = R.flatten.length → Q true st') : wpS (model prog w) A E s (mergeAt' i) Q st := by
  obtain ⟨R1, x, y, R2, rfl, rfl⟩ : ∃ R1 x y R2, R = R1 ++ x :: y :: R2 ∧ i = R1.length := by
    refine ⟨R.take i, R[i], R[i + 1], R.drop (i + 2), ?_, by rw [List.length_take]; omega⟩
    rw [← List.drop_eq_getElem_cons hi, ← List.drop_eq_getElem_cons (by omega : i < R.length), List.take_append_drop]
  obtain ⟨a, b, p1, p2, p3⟩ := h.pd.two
  have fl : (R1 ++ x :: y :: R2).flatten ++ l = R1.flatten ++ x ++ y ++ (R2.flatten ++ l) := by simp [List.append_assoc]
  have od' := od.perm h.pm
  rw [fl] at od'
  have dis : ∀ u ∈ x, ∀ v ∈ y, r u ≠ r v := fun u hu v hv => (List.pairwise_append.mp (List.pairwise_append.mp od').1).2.2 u (List.mem_append_right _ hu) v hv
  have g : ∀ u, u ∈ R1.flatten ++ x ++ y ++ (R2.flatten ++ l) → G u := fun u hu => ga u (h.pm.mem_iff.mp (by rw [fl]; exact hu))
  refine one_run ask h.kd h.fl (pre := R1.flatten) (x := x) (y := y) (post := R2.flatten ++ l) (by rw [h.ar, fl]) (h.ri x (by simp)).2 (h.ri y (by simp)).2 (h.ri x (by simp)).1 (h.ri y (by simp)).1 (fun u hu => g u (by simp [hu])) (fun u hu => g u (by simp [hu])) dis p1 p2 fun st' z k f pd ar zp zr => ?_
  have zl := zp.length_eq
  rw [List.length_append] at zl
  have fl' : (R1 ++ z :: R2).flatten ++ l = R1.flatten ++ z ++ (R2.flatten ++ l) := by simp [List.append_assoc]
  refine q st' (R1 ++ z :: R2) ⟨k, f, by rw [ar, fl'], ?_, by rw [pd]; exact p3 z zl, fun u hu => ?_⟩ (by simp; omega) (by simp; omega)
  · refine List.Perm.trans ?_ h.pm
    rw [fl, fl', List.append_assoc (R1.flatten) x y]
    exact List.Perm.append_right _ (List.Perm.append_left _ zp)
  · rcases List.mem_append.mp hu with c | c
    · exact h.ri u (by simp [c])
    · rcases List.mem_cons.mp c with c | c
      · subst c
        have := (h.ri x (by simp)).2
        exact ⟨zr, by omega⟩
      · exact h.ri u (by simp [c])
theorem pick {c : Prop} [Decidable c] {n m : Nat} (h : n + 1 < m) : (if c then n - 1 else n) + 1 < m := by split <;> omega
theorem all_sorted (ask : Asks prog w A s kd G r) {a0 : List Keyed} (ga : ∀ x ∈ a0, G x) (od : Odd r a0) (hk : kindOf st = kd) (hf : failedOf st = none) (hp : pendingOf st = #[]) (ar : (arrOf st).toList = a0) {Q : Unit → SortSt → Prop}
    (q : ∀ (st' : SortSt), failedOf st' = none → (arrOf st').toList.Perm a0 → Ris r (arrOf st').toList → Q () st') : wpS (model prog w) A E s sortRuns' Q st := by
  have sz : (arrOf st).size = a0.length := by rw [← ar, Array.length_toList]
  refine wpS_bind (wpS_get ?_)
  lift_lets
  intro size minrun lo
  have esz : size = a0.length := sz
  have lenOf : ∀ {st' : SortSt} {R : List (List Keyed)} {l : List Keyed}, Runs6 kd G r a0 st' R l → R.flatten.length + l.length = a0.length := fun {st' R l} h => by
    have := h.pm.length_eq
    rw [List.length_append] at this
    exact this
  have fewer : ∀ {st' : SortSt} {R : List (List Keyed)} {l : List Keyed}, Runs6 kd G r a0 st' R l → R.length ≤ R.flatten.length := fun {st' R l} h => by
    have := h.ri
    clear h
    induction R with
    | nil => simp
    | cons x R ih =>
      have h1 := (this x (by simp)).2
      have h2 := ih fun y hy => this y (by simp [hy])
      simp only [List.flatten_cons, List.length_cons, List.length_append]
      omega
  refine wpS_bind (wpS_mono (wpS_forRange (I := fun i c st' => ∃ R l, Runs6 kd G r a0 st' R l ∧ c = (none, R.flatten.length) ∧ (i ≤ R.flatten.length ∨ l = [])) (Q := fun c st' => c.1 = none ∧ ∃ R, Runs6 kd G r a0 st' R []) ?_ ?_ ⟨[], a0, ⟨hk, hf, ar, List.Perm.refl _, by unfold Pend; rw [hp]; rfl, by simp⟩, rfl, .inl (Nat.le_refl _)⟩) ?_)
  · rintro i c st1 _ hi ⟨R, l, h, rfl, hil⟩
    refine wp_if (fun c => ?_) fun c => ?_
    · have c : R.flatten.length ≥ size := c
      have := lenOf h
      have l0 : l = [] := List.eq_nil_of_length_eq_zero (by omega)
      subst l0
      exact wpS_pure ⟨rfl, R, h⟩
    have c : ¬ R.flatten.length ≥ size := c
    have ln := lenOf h
    have od1 : Odd r l := (List.pairwise_append.mp (od.perm h.pm)).2.1
    have gl : ∀ x ∈ l, G x := fun x hx => ga x (h.pm.mem_iff.mp (List.mem_append_right _ hx))
    have go := fun Q q => run_found (E := E) (Q := Q) ask h.kd h.ar gl od1 (by omega) q
    rw [show l.length = size - R.flatten.length by omega] at go
    refine wpS_bind (go _ fun st2 l2 n N ar2 pm2 n0 n1 ri => ?_)
    have h2 : Runs6 kd G r a0 st2 R l2 := ⟨N.kd.trans h.kd, N.fl.trans h.fl, ar2, (List.Perm.append_left _ pm2).trans h.pm, by rw [N.pd]; exact h.pd, h.ri⟩
    have ln2 := lenOf h2
    split
    rotate_left
    · rename_i hx
      exact absurd rfl (hx n)
    rename_i found heq
    cases heq
    have iR : i ≤ R.flatten.length := by
      rcases hil with z | z
      · exact z
      · have : l.length = 0 := by rw [z]; rfl
        omega
    have fin : ∀ {st4 : SortSt} {R4 : List (List Keyed)} {l3 : List Keyed} {m : Nat}, Runs6 kd G r a0 st4 R4 l3 → R4.flatten.length = R.flatten.length → 0 < m → m ≤ l3.length → Ris r (l3.take m) →
        ∃ R' l', Runs6 kd G r a0 (SortSt.mk' (kindOf st4) (arrOf st4) ((pendingOf st4).push (R.flatten.length, m, 0)) (gallopOf st4) (failedOf st4)) R' l' ∧ ((none, R.flatten.length + m) : Option Unit × Nat) = (none, R'.flatten.length) ∧ (i + 1 ≤ R'.flatten.length ∨ l' = []) := fun {st4 R4 l3 m} h4 e4 m0 m1 ri3 => by
      have tl : [l3.take m].flatten.length = m := by
        simp only [List.flatten_cons, List.flatten_nil, List.append_nil, List.length_take]
        omega
      refine ⟨R4 ++ [l3.take m], l3.drop m, ⟨h4.kd, h4.fl, ?_, ?_, h4.pd.push e4.symm (by rw [List.length_take]; omega), fun x hx => ?_⟩, ?_, .inl ?_⟩
      · show (arrOf st4).toList = _
        rw [h4.ar]
        simp [List.append_assoc]
      · have := h4.pm
        simpa [List.append_assoc] using this
      · rcases List.mem_append.mp hx with z | z
        · exact h4.ri x z
        · rw [List.mem_singleton.mp z]
          exact ⟨ri3, by rw [List.length_take]; omega⟩
      · rw [List.flatten_append, List.length_append, e4, tl]
      · rw [List.flatten_append, List.length_append, e4, tl]
        omega
    refine wp_if (fun c2 => wpS_bind (wpS_lift (wpAny_rule ⟨rfl, wpS_bind (run_longer ask h2.kd h2.ar (fun x hx => ga x (h2.pm.mem_iff.mp (List.mem_append_right _ hx))) (List.pairwise_append.mp (od.perm h2.pm)).2.1 (n := min (size - R.flatten.length) minrun) n0 ?h5 ?h6 ri fun st3 l3 N3 ar3 pm3 ri3 => wp_if (fun z => absurd z (by decide)) fun _ => ?_)⟩))) fun c2 => ?_
    case h5 => have : n < minrun := c2; omega
    case h6 => omega
    · have c2 : n < minrun := c2
      have h3 : Runs6 kd G r a0 st3 R l3 := ⟨N3.kd.trans h2.kd, N3.fl.trans h2.fl, ar3, (List.Perm.append_left _ pm3).trans h2.pm, by rw [N3.pd]; exact h2.pd, h.ri⟩
      have m0 : 0 < min (size - R.flatten.length) minrun := by omega
      have m1 : min (size - R.flatten.length) minrun ≤ l3.length := by have := lenOf h3; omega
      refine wpS_bind (wpS_get ?_)
      cases hb : (pendingOf _).back? with
      | none => exact wpS_bind (wpS_modify (wpS_pure (fin h3 rfl m0 m1 ri3)))
      | some v =>
        obtain ⟨s1, n1', p1'⟩ := v
        refine wpS_bind (wpS_mono (wpS_forRange (I := fun j c st' => c = (none, ()) ∧ ∃ R4, Runs6 kd G r a0 st' R4 _ ∧ R4.flatten.length = R.flatten.length) (Q := fun c st' => c = (none, ()) ∧ ∃ R4, Runs6 kd G r a0 st' R4 _ ∧ R4.flatten.length = R.flatten.length) ?_ (fun _ _ z => z) ⟨rfl, R, h3, rfl⟩) ?_)
        · rintro j c st4 _ _ ⟨rfl, R4, h4, e4⟩
          refine wpS_bind (wpS_get ?_)
          dsimp only
          split
          · rename_i f1 f2 older he
            have big : (pendingOf st4).size > 1 := by
              by_cases b : (pendingOf st4).size > 1
              · exact b
              · rw [if_neg b] at he; cases he
            exact wp_if (fun _ => wpS_pure ⟨rfl, R4, h4, e4⟩) fun _ => wpS_bind (join_two ask ga od h4 (i := (pendingOf st4).size - 2) (by have := h4.pd.size; omega) fun st5 R5 h5 e5 e6 => wp_if (fun z => absurd z (by decide)) fun _ => wpS_pure ⟨rfl, R5, h5, e6.trans e4⟩)
          · exact wpS_pure ⟨rfl, R4, h4, e4⟩
        · rintro c st4 ⟨rfl, R4, h4, e4⟩
          have h5 : ∀ pw, Runs6 kd G r a0 (SortSt.mk' (kindOf st4) (arrOf st4) ((pendingOf st4).modify ((pendingOf st4).size - 1) fun x => (x.1, x.2.1, pw)) (gallopOf st4) (failedOf st4)) R4 _ := fun pw => ⟨h4.kd, h4.fl, h4.ar, h4.pm, h4.pd.pow fun _ => rfl, h4.ri⟩
          exact wpS_bind (wpS_modify (wpS_bind (wpS_modify (wpS_pure (fin (h5 _) e4 m0 m1 ri3)))))
    · have h3 := h2
      have m0 := n0
      have m1 := n1
      have ri3 := ri
      refine wpS_bind (wpS_get ?_)
      cases hb : (pendingOf _).back? with
      | none => exact wpS_bind (wpS_modify (wpS_pure (fin h3 rfl m0 m1 ri3)))
      | some v =>
        obtain ⟨s1, n1', p1'⟩ := v
        refine wpS_bind (wpS_mono (wpS_forRange (I := fun j c st' => c = (none, ()) ∧ ∃ R4, Runs6 kd G r a0 st' R4 _ ∧ R4.flatten.length = R.flatten.length) (Q := fun c st' => c = (none, ()) ∧ ∃ R4, Runs6 kd G r a0 st' R4 _ ∧ R4.flatten.length = R.flatten.length) ?_ (fun _ _ z => z) ⟨rfl, R, h3, rfl⟩) ?_)
        · rintro j c st4 _ _ ⟨rfl, R4, h4, e4⟩
          refine wpS_bind (wpS_get ?_)
          dsimp only
          split
          · rename_i f1 f2 older he
            have big : (pendingOf st4).size > 1 := by
              by_cases b : (pendingOf st4).size > 1
              · exact b
              · rw [if_neg b] at he; cases he
            exact wp_if (fun _ => wpS_pure ⟨rfl, R4, h4, e4⟩) fun _ => wpS_bind (join_two ask ga od h4 (i := (pendingOf st4).size - 2) (by have := h4.pd.size; omega) fun st5 R5 h5 e5 e6 => wp_if (fun z => absurd z (by decide)) fun _ => wpS_pure ⟨rfl, R5, h5, e6.trans e4⟩)
          · exact wpS_pure ⟨rfl, R4, h4, e4⟩
        · rintro c st4 ⟨rfl, R4, h4, e4⟩
          have h5 : ∀ pw, Runs6 kd G r a0 (SortSt.mk' (kindOf st4) (arrOf st4) ((pendingOf st4).modify ((pendingOf st4).size - 1) fun x => (x.1, x.2.1, pw)) (gallopOf st4) (failedOf st4)) R4 _ := fun pw => ⟨h4.kd, h4.fl, h4.ar, h4.pm, h4.pd.pow fun _ => rfl, h4.ri⟩
          exact wpS_bind (wpS_modify (wpS_bind (wpS_modify (wpS_pure (fin (h5 _) e4 m0 m1 ri3)))))
  · rintro c st1 ⟨R, l, h, rfl, hil⟩
    have := lenOf h
    have l0 : l = [] := by
      rcases hil with z | z
      · rw [Nat.max_eq_right (Nat.zero_le _)] at z
        exact List.eq_nil_of_length_eq_zero (by omega)
      · exact z
    subst l0
    exact ⟨rfl, R, h⟩
  rintro ⟨c1, c2⟩ st1 ⟨e, R, h⟩
  obtain rfl : c1 = none := e
  have l1 := lenOf h
  have f1 := fewer h
  rw [List.length_nil] at l1
  refine wpS_bind (wpS_mono (wpS_forRange (I := fun i c st' => c = (none, ()) ∧ ∃ R, Runs6 kd G r a0 st' R [] ∧ R.length + i ≤ size + 1) (Q := fun c st' => c = (none, ()) ∧ ∃ R, Runs6 kd G r a0 st' R [] ∧ R.length ≤ 1) ?_ ?_ ⟨rfl, R, h, by omega⟩) ?_)
  · rintro i c st2 _ hi ⟨rfl, R2, h2, e2⟩
    refine wpS_bind (wpS_get ?_)
    have sz2 := h2.pd.size
    refine wp_if (fun c => wpS_pure ⟨rfl, R2, h2, by have : (pendingOf st2).size ≤ 1 := c; omega⟩) fun c => ?_
    have c : ¬ (pendingOf st2).size ≤ 1 := c
    exact wpS_bind (join_two ask ga od h2 (pick (by show (pendingOf st2).size - 2 + 1 < _; omega)) fun st5 R5 h5 e5 e6 => wp_if (fun z => absurd z (by decide)) fun _ => wpS_pure ⟨rfl, R5, h5, by omega⟩)
  · rintro c st2 ⟨rfl, R2, h2, e2⟩
    rw [Nat.max_eq_right (Nat.zero_le _)] at e2
    exact ⟨rfl, R2, h2, by omega⟩
  · rintro c st2 ⟨rfl, R2, h2, e2⟩
    refine wpS_pure (q st2 h2.fl (by rw [h2.ar]; exact h2.pm) ?_)
    rw [h2.ar, List.append_nil]
    match R2, e2, h2.ri with
    | [], _, _ => exact List.Pairwise.nil
    | [x], _, ri => simpa using (ri x (by simp)).1
end
end L2
end
section
/-! sorted(l) of a list, of any length, of tuples of ints that are all unlike. -/
namespace L2
open PySem PySem.Spec PySem.W PyProof.Rows
set_option maxHeartbeats 4000000
set_option maxRecDepth 100000
set_option Elab.async false
set_option linter.unusedVariables false
/-- at v stands the tuple t of ints -/
def TupAt (h : Heap) (v : Value) (t : List Int) : Prop := ∃ (p : Addr) (its : List Value), v = .ref p ∧ IsTup h p its.toArray ∧ Vals (t.map V.int) its
theorem TupAt.old {h h' : Heap} {v : Value} {t : List Int} (n : TupAt h v t) (k : ∀ (x : Addr) (o : Obj), h.get? x = some o → o.cls ≠ .type "list" → h'.get? x = some o) : TupAt h' v t := by
  obtain ⟨p, its, e, ⟨o2, h2, c2, d2⟩, hi⟩ := n
  exact ⟨p, its, e, ⟨o2, k _ _ h2 (by rw [c2]; simp), c2, d2⟩, hi⟩
theorem TupAt.one {h : Heap} {v : Value} {t t' : List Int} (a : TupAt h v t) (b : TupAt h v t') : t = t' := by
  obtain ⟨p, its, rfl, ⟨o1, g1, _, n1, d1⟩, v1⟩ := a
  obtain ⟨p', its', e, ⟨o2, g2, _, n2, d2⟩, v2⟩ := b
  cases e
  rw [g1] at g2
  cases g2
  rw [d1] at d2
  have e3 : its = its' := by
    have z : its.toArray = its'.toArray := (Data.seq.inj d2).1
    simpa using congrArg Array.toList z
  subst e3
  exact ints_of_vals v1 v2
section
variable {prog : Program} {w : World} {A : Around} {E : Value → Shared → Prop} {s : Shared}
theorem lex_go {b fin : Bool} {Q : Bool → Shared → Prop} : ∀ {t t' : List Int} {xs ys : List Value} {i : Nat}, Vals (t.map V.int) xs → Vals (t'.map V.int) ys → fin = decide (t.length < t'.length) → Q (HT.lexLt t t') s → KatLex prog w A b fin Q (xs.zip ys) i s
  | [], [], _, _, _, .nil, .nil, e, q => kat_nil (by rw [e]; exact q)
  | [], _ :: _, _, _, _, .nil, .cons _ _, e, q => kat_nil (by rw [e]; exact q)
  | _ :: _, [], _, _, _, .cons _ _, .nil, e, q => kat_nil (by rw [e]; exact q)
  | c :: t, d :: t', _, _, i, .cons x r, .cons y r', e, q => by
    obtain ⟨k, rfl⟩ := int_val x
    obtain ⟨k', rfl⟩ := int_val y
    rw [HT.lexLt_cons] at q
    refine kat_cons (wpAny_eqBool_int (kat_go (fun z => kat_yes (lex_go r r' ?_ ?_)) fun z => kat_no ?_))
    · rw [e]; simp
    · rw [if_pos (by simpa using z)] at q
      exact q
    · rw [if_neg (by simpa using z)] at q
      by_cases c : (b && i == 0) = true
      · rw [c]; exact oneLt_int q
      · rw [Bool.eq_false_iff.mpr c]
        exact kat_one _ _ (lt_int q)
theorem tup_lt {b : Bool} {v v' : Value} {t t' : List Int} {Q : Bool → Shared → Prop} (h : TupAt s.heap v t) (h' : TupAt s.heap v' t') (q : Q (HT.lexLt t t') s) : wpAny (model prog w) A (keyLt' (tuples' b) v v') Q E s := by
  obtain ⟨p, its, rfl, ⟨o, g, c, n, d⟩, hi⟩ := h
  obtain ⟨p', its', rfl, ⟨o', g', c', n', d'⟩, hi'⟩ := h'
  have l1 := hi.length
  have l2 := hi'.length
  rw [List.length_map] at l1 l2
  refine kat_lt g d g' d' ?_
  have := lex_go (prog := prog) (w := w) (A := A) (s := s) (b := b) (Q := Q) (i := 0) hi hi' (fin := decide (its.toArray.size < its'.toArray.size)) (by simp [l1, l2]) q
  simpa using this
theorem asks_of {kd : SortKind} {G : Keyed → Prop} {r : Keyed → Int} (h : ∀ (x y : Keyed) (Q : Bool → Shared → Prop), G x → G y → Q (decide (r x < r y)) s → wpAny (model prog w) A (keyLt' kd x.1 y.1) Q (fun _ _ => False) s) : Asks prog w A s kd G r := by
  intro E x y Q st gx gy hk q
  subst hk
  rw [lt'_eq]
  refine wpS_bind (wpS_get ?_)
  refine wpS_bind (wpS_lift (wpAny_attempt (wpAny_mono (h x y (fun b s' => b = decide (r x < r y) ∧ s' = s) gx gy ⟨rfl, rfl⟩) (fun b s' hb => ?_) fun _ _ z => z.elim)))
  obtain ⟨rfl, rfl⟩ := hb
  exact ⟨rfl, wpS_pure q⟩
theorem sort_rows {a : Addr} {vs : List Value} {bl : List (List Int)} {n : Nat} {Fi : PySem.Fin → Shared → Prop} (ho : s.heap.get? a = some (seqObj "list" vs.toArray n)) (hl : vs.length = bl.length) (hP : ∀ (i : Nat) v b, vs[i]? = some v → bl[i]? = some b → TupAt s.heap v b)
    (nd : bl.Nodup) (ne : 2 ≤ bl.length → ∀ b ∈ bl, b ≠ []) (hz : bl.length ≤ 100000) (h : ∀ (us : List Value) (bl' : List (List Int)), us.length = bl'.length → bl'.Perm bl → bl'.Pairwise (fun x y => HT.lexLt x y = true) → (∀ (j : Nat) u b, us[j]? = some u → bl'[j]? = some b → ∃ i : Nat, vs[i]? = some u ∧ bl[i]? = some b) →
      Fi (.done (.ret .none)) { s with heap := sortedHeap s.heap a vs us.toArray }) : wpAny (model prog w) A (Builtin.«list.sort» ⟨[.ref a], []⟩) Fi E s := by
  have ha : a < s.heap.objs.size := Heap.lt_size ho
  obtain ⟨ep, ho1⟩ : ∃ ep, (s.heap.update a (Obj.mapSeq fun _ => (#[] : Array Value))).get? a = some (seqObj "list" #[] ep) := ⟨_, get?_update_seq ho fun _ => (#[] : Array Value)⟩
  generalize hh : ((s.heap.update a (Obj.mapSeq fun _ => (#[] : Array Value))).push (seqObj "tuple" vs.toArray 0)).push (seqObj "list" #[] 0) = h6
  have ho6 : h6.get? a = some (seqObj "list" #[] ep) := by rw [← hh]; exact Heap.get?_push_of_some _ (Heap.get?_push_of_some _ ho1)
  have old : ∀ (x : Addr) (o : Obj), s.heap.get? x = some o → o.cls ≠ .type "list" → h6.get? x = some o := fun x o e ne => by
    have nx : x ≠ a := fun z => by rw [z, ho] at e; cases e; exact ne rfl
    rw [← hh]
    exact Heap.get?_push_of_some _ (Heap.get?_push_of_some _ (by rw [Heap.get?_update_ne _ _ _ _ nx]; exact e))
  have hP6 : ∀ (i : Nat) v b, vs[i]? = some v → bl[i]? = some b → TupAt h6 v b := fun i v b e1 e2 => (hP i v b e1 e2).old old
  have szv : vs.length ≤ sizeLine := by rw [sizeLine_eq]; omega
  rw [list_sort_plain]
  refine wpAny_bind (listItems_at ho rfl (wpAny_bind (listUpdate_at ho rfl (wpAny_bind (seqEpoch_at ho1 rfl (wpAny_bind (wpAny_newTuple (wpAny_bind (wpAny_newList (wpAny_holding ?_) (Nat.zero_le _))) szv)))) (by rw [List.size_toArray]; exact szv) (Nat.zero_le _))))
  simp only []
  rw [hh]
  by_cases c : vs.toArray.size < 2
  · rw [if_pos c, if_pos c]
    refine wpAny_bind (wpAny_pure ?_)
    rw [StateT.run_pure]
    refine wpAny_bind (wpAny_pure ?_)
    dsimp only
    have eo : (arrOf (SortSt.mk' general' (vs.toArray.zip vs.toArray) #[] 7 none)).map (·.2) = vs.toArray := by
      show (vs.toArray.zip vs.toArray).map (·.2) = _
      apply Array.toList_inj.mp
      rw [Array.toList_map, Array.toList_zip]
      exact List.map_snd_zip (Nat.le_refl _)
    rw [eo]
    refine wpAny_bind (seqEpoch_at ho6 rfl (wpAny_bind (listUpdate_at ho6 rfl ?_ (Nat.zero_le _) (by rw [List.size_toArray]; exact Nat.le_succ_of_le szv))))
    simp only [bne_self_eq_false, Bool.false_eq_true, if_false]
    have fin := h vs bl hl (List.Perm.refl _) ?_ fun j u b e1 e2 => ⟨j, e1, e2⟩
    · rw [← hh]
      exact wpAny_pure fin
    · rw [List.size_toArray] at c
      match bl, hl with
      | [], _ => exact List.Pairwise.nil
      | [x], _ => exact List.pairwise_singleton _ _
      | x :: y :: l, e => simp at e; omega
  · rw [if_neg c, if_neg c]
    rw [List.size_toArray] at c
    have ne2 := ne (by omega)
    obtain ⟨fs, ft, fl, fi⟩ : ∃ fs : List Value, KatTups h6 vs fs ∧ fs.length = vs.length ∧ ∀ f ∈ fs, ∃ i t, f = .int i t := by
      clear c h nd ho szv hz hh ne hP
      induction vs generalizing bl with
      | nil => exact ⟨[], .nil, rfl, fun f hf => absurd hf List.not_mem_nil⟩
      | cons v vs ih =>
        cases bl with
        | nil => simp at hl
        | cons k ks =>
          obtain ⟨fs, a1, b1, c1⟩ := ih (bl := ks) (by simpa using hl) (fun i v' k' x y => hP6 (i + 1) v' k' x y) fun b hb => ne2 b (List.mem_cons_of_mem _ hb)
          obtain ⟨p, its, rfl, ⟨o, g, cl, m, d⟩, hi⟩ := hP6 0 v k rfl rfl
          have k0 := ne2 k List.mem_cons_self
          cases k with
          | nil => exact absurd rfl k0
          | cons i k =>
            cases hi with
            | cons x r =>
              obtain ⟨t, rfl⟩ := int_val x
              exact ⟨.int i t :: fs, .cons g cl d (by simp) a1, by simp [b1], fun f hf => by
                rcases List.mem_cons.mp hf with z | z
                · exact ⟨_, _, z⟩
                · exact c1 f z⟩
    refine wpAny_bind (kat_kind (s := { s with heap := h6 }) (T := .type "int") ft (by omega) (fun v hv => ?_) (by decide) ?_)
    · obtain ⟨i, t, rfl⟩ := fi v hv
      exact .now
    obtain ⟨T, hT⟩ : ∃ T : Keyed → List Int, ∀ x t, TupAt h6 x.1 t → T x = t := by
      refine ⟨fun x => @dite _ (∃ t, TupAt h6 x.1 t) (Classical.propDecidable _) (fun z => z.choose) fun _ => [], fun x t ht => ?_⟩
      have z : ∃ t, TupAt h6 x.1 t := ⟨t, ht⟩
      show @dite _ (∃ t, TupAt h6 x.1 t) (Classical.propDecidable _) (fun z => z.choose) (fun _ => []) = t
      rw [dif_pos z]
      exact z.choose_spec.one ht
    have a0i : ∀ x, x ∈ (vs.toArray.zip vs.toArray).toList → ∃ (i : Nat) (v : Value) (b : List Int), x = (v, v) ∧ vs[i]? = some v ∧ bl[i]? = some b ∧ T x = b := fun x hx => by
      rw [Array.toList_zip, List.mem_iff_getElem?] at hx
      obtain ⟨i, hi⟩ := hx
      rw [List.getElem?_zip_eq_some] at hi
      obtain ⟨e1, e2⟩ := hi
      rw [e1] at e2
      have e3 : x.1 = x.2 := Option.some.inj e2
      have hi : i < vs.length := (List.getElem?_eq_some_iff.mp e1).1
      have eb : bl[i]? = some (bl[i]'(by omega)) := List.getElem?_eq_getElem _
      exact ⟨i, x.1, _, Prod.ext rfl e3.symm, e1, eb, hT x _ (hP6 i _ _ e1 eb)⟩
    have mapT : (vs.toArray.zip vs.toArray).toList.map T = bl := by
      apply List.ext_getElem?
      intro i
      rw [List.getElem?_map, Array.toList_zip]
      by_cases hi : i < vs.length
      · have e1 : vs[i]? = some vs[i] := List.getElem?_eq_getElem hi
        have eb : bl[i]? = some (bl[i]'(by omega)) := List.getElem?_eq_getElem _
        have : (vs.zip vs)[i]? = some (vs[i], vs[i]) := by rw [List.getElem?_zip_eq_some]; exact ⟨e1, e1⟩
        show Option.map T (vs.zip vs)[i]? = _
        rw [this, eb]
        exact congrArg some (hT _ _ (hP6 i _ _ e1 eb))
      · rw [List.getElem?_eq_none (by simp; omega), List.getElem?_eq_none (by omega)]
        rfl
    have ask : Asks prog w A { s with heap := h6 } (tuples' (Value.type "int" != Value.type "tuple")) (fun x => x ∈ (vs.toArray.zip vs.toArray).toList) (fun x => rnk bl (T x)) := asks_of fun x y Q gx gy q => by
      obtain ⟨i, v, b, rfl, e1, e2, e3⟩ := a0i x gx
      obtain ⟨i', v', b', rfl, e1', e2', e3'⟩ := a0i y gy
      rw [e3, e3', rnk_iff (List.mem_of_getElem? e2) (List.mem_of_getElem? e2')] at q
      exact tup_lt (s := { s with heap := h6 }) (hP6 i v b e1 e2) (hP6 i' v' b' e1' e2') q
    have inT : ∀ x ∈ (vs.toArray.zip vs.toArray).toList, T x ∈ bl := fun x hx => by
      obtain ⟨i, v, b, _, _, e2, e3⟩ := a0i x hx
      rw [e3]
      exact List.mem_of_getElem? e2
    have od : Odd (fun x => rnk bl (T x)) (vs.toArray.zip vs.toArray).toList := by
      have := nd
      rw [← mapT] at this
      have := List.pairwise_map.mp this
      refine List.Pairwise.imp_of_mem (fun {x y} hx hy n e => n ?_) this
      exact rnk_inj (inT x hx) (inT y hy) e
    refine wpAny_bind (wpAny_mono (all_sorted (Q := fun _ st' => failedOf st' = none ∧ (arrOf st').toList.Perm (vs.toArray.zip vs.toArray).toList ∧ Ris (fun x => rnk bl (T x)) (arrOf st').toList) (st := SortSt.mk' _ (vs.toArray.zip vs.toArray) #[] 7 none) ask (fun x hx => hx) od rfl rfl rfl rfl fun st' f1 f2 f3 => ⟨f1, f2, f3⟩) ?_ fun _ _ e => e)
    rintro ⟨⟨⟩, st'⟩ s' ⟨rfl, hf, pm, ri⟩
    dsimp only
    dsimp only at hf pm ri
    have inA : ∀ x ∈ (arrOf st').toList, x ∈ (vs.toArray.zip vs.toArray).toList := fun x hx => pm.mem_iff.mp hx
    have eo : (arrOf st').map (·.2) = ((arrOf st').toList.map (·.2)).toArray := by
      apply Array.toList_inj.mp
      simp
    rw [eo]
    have lo : ((arrOf st').toList.map (·.2)).length = vs.length := by rw [List.length_map, pm.length_eq, Array.toList_zip]; simp
    refine wpAny_bind (seqEpoch_at ho6 rfl (wpAny_bind (listUpdate_at ho6 rfl ?_ (Nat.zero_le _) (by rw [List.size_toArray, lo]; exact Nat.le_succ_of_le szv))))
    rw [hf]
    simp only [bne_self_eq_false, Bool.false_eq_true, if_false]
    have fin := h ((arrOf st').toList.map (·.2)) ((arrOf st').toList.map T) (by rw [List.length_map, List.length_map]) (by rw [← mapT]; exact pm.map T) ?_ fun j u b e1 e2 => ?_
    · rw [← hh]
      exact wpAny_pure fin
    · rw [List.pairwise_map]
      refine List.Pairwise.imp_of_mem (fun {x y} hx hy lt => ?_) ri
      rw [← rnk_iff (inT x (inA x hx)) (inT y (inA y hy))]
      exact decide_eq_true lt
    · rw [List.getElem?_map] at e1 e2
      cases ej : (arrOf st').toList[j]? with
      | none => rw [ej] at e1; cases e1
      | some x =>
        rw [ej] at e1 e2
        obtain ⟨i, v, b', rfl, z1, z2, z3⟩ := a0i x (inA x (List.mem_of_getElem? ej))
        cases e1
        cases e2
        exact ⟨i, z1, by rw [z3]; exact z2⟩
end
end L2
end
section
/-! the rule: sorted(l) of a list of tuples of ints. -/
namespace L2
open PySem PySem.Spec PySem.W PyProof.Rows
set_option maxHeartbeats 4000000
set_option maxRecDepth 100000
set_option Elab.async false
set_option linter.unusedVariables false
/-- tuples of ints -/
def Rws (H : Hp) (xs : List V) (bl : List (List Int)) : Prop := xs.length = bl.length ∧ ∀ (j : Nat) (b : List Int), bl[j]? = some b → ∃ p : Addr, xs[j]? = some (.ref p) ∧ H p = some (.tup (b.map V.int))
theorem Rws.same {H H' : Hp} {xs : List V} {bl : List (List Int)} (n : Rws H xs bl) (s : Same H H') : Rws H' xs bl := ⟨n.1, fun j b e => let ⟨p, a, c⟩ := n.2 j b e; ⟨p, a, s _ _ c⟩⟩
def rSortT : List V → Hp → VK → Prop := fun xs H Q => ∃ (a : Addr) (ys : List V) (bl : List (List Int)), xs = [.ref a] ∧ H a = some (.lst ys) ∧ Rws H ys bl ∧ bl.Nodup ∧ (2 ≤ bl.length → ∀ b ∈ bl, b ≠ []) ∧ bl.length ≤ 100000 ∧
  ∀ (bl' : List (List Int)) (zs : List V) (l : Addr), bl'.Perm bl → bl'.Pairwise (fun x y => HT.lexLt x y = true) → Rws H zs bl' → H l = none → Q (.ref l) (upd H l (.lst zs))
theorem call_sortT {X : Cx} : CallR X (.builtin "sorted") rSortT := by
  intro pins s σ H xs us Q I r h
  obtain ⟨a, ys, bl, rfl, ha, pr, nd, ne, hz0, q⟩ := h
  obtain ⟨u, rfl, rx⟩ := vals1 r
  cases (show u = Value.ref a from rx)
  obtain ⟨hz, vs, n, rv, ho⟩ : ys.length ≤ sizeLine ∧ ∃ (its : List Value) (n : Nat), Vals ys its ∧ s.heap.get? a = some { cls := .type "list", data := .seq its.toArray n } := I.hok a _ ha
  have lv : vs.length = bl.length := by rw [← pr.1]; exact rv.length.symm
  have szv : vs.length ≤ sizeLine := by rw [sizeLine_eq]; omega
  have hP : ∀ (i : Nat) v b, vs[i]? = some v → bl[i]? = some b → TupAt s.heap v b := fun i v b e1 e2 => by
    obtain ⟨p, e3, hp⟩ := pr.2 i b e2
    obtain ⟨u, e4, ru⟩ := rv.get e3
    rw [e1] at e4
    have ev : v = .ref p := (Option.some.inj e4).trans (show u = Value.ref p from ru)
    obtain ⟨_, its, rt, it⟩ : (b.map V.int).length ≤ sizeLine ∧ ∃ its : List Value, Vals (b.map V.int) its ∧ IsTup s.heap p its.toArray := I.hok p _ hp
    exact ⟨p, its, ev, it, rt⟩
  refine Calls.call_function_entry kind_sorted plain_sorted entry_sorted (args_sorted1 _) ?_
  unfold Builtin.«sorted»
  refine wpAny_bind (m := checkCount "sorted" 1 1 _) (wpAny_pure (wpAny_bind (collect_list (vs := vs) ⟨_, ho, rfl, n, rfl⟩ ?_ szv)))
  have old1 : ∀ b o, s.heap.get? b = some o → ((s.heap.push (seqObj "list" #[] 0)).update s.heap.objs.size (Obj.mapSeq (· ++ vs.toArray))).get? b = some o := fun b o e => by
    rw [Heap.get?_update_ne _ _ _ _ (Nat.ne_of_lt (Heap.lt_size e))]
    exact Heap.get?_push_of_some _ e
  have sz1 : s.heap.objs.size ≤ ((s.heap.push (seqObj "list" #[] 0)).update s.heap.objs.size (Obj.mapSeq (· ++ vs.toArray))).objs.size := by
    rw [Heap.size_update, size_push']
    exact Nat.le_succ _
  generalize (s.heap.push (seqObj "list" #[] 0)).update s.heap.objs.size (Obj.mapSeq (· ++ vs.toArray)) = h1 at old1 sz1 ⊢
  refine wpAny_bind (wpAny_newList ?_ szv)
  have hoL : (h1.push (seqObj "list" vs.toArray 0)).get? h1.objs.size = some (seqObj "list" vs.toArray 0) := Heap.get?_push_size _ rfl
  refine wpAny_bind (wpAny_holding (wpAny_call_entry slot_list_sort ⟨_, hoL, rfl⟩ entry_list_sort (sort_rows (s := { s with heap := h1.push (seqObj "list" vs.toArray 0) }) (bl := bl) hoL lv (fun i v k e1 e2 => ?_) nd ne hz0 fun out bl' lo pm pw of => ⟨_, rfl, ?_⟩) (args_list_sort _)))
  · exact (hP i v k e1 e2).old fun x o e _ => Heap.get?_push_of_some _ (old1 _ _ e)
  obtain ⟨e, he⟩ := sortedHeap_at (out := out.toArray) hoL
  have old : ∀ b o, s.heap.get? b = some o → (sortedHeap (h1.push (seqObj "list" vs.toArray 0)) h1.objs.size vs out.toArray).get? b = some o := fun b o eb => by
    have lt := Nat.lt_of_lt_of_le (Heap.lt_size eb) sz1
    rw [sortedHeap_old (h := h1.push (seqObj "list" vs.toArray 0)) (b := b) (Nat.ne_of_lt lt) (by rw [Heap.size_push]; exact Nat.lt_succ_of_lt lt)]
    exact Heap.get?_push_of_some _ (old1 _ _ eb)
  have lb := pm.length_eq
  obtain ⟨zs, rz, hz2⟩ : ∃ zs : List V, Vals zs out ∧ Rws H zs bl' := by
    have at_ : ∀ (j : Nat) u b, out[j]? = some u → bl'[j]? = some b → ∃ p, u = .ref p ∧ H p = some (.tup (b.map V.int)) := fun j u b e1 e2 => by
      obtain ⟨i, f1, f2⟩ := of j u b e1 e2
      obtain ⟨p, e3, hp⟩ := pr.2 i b f2
      obtain ⟨u', e4, ru⟩ := rv.get e3
      rw [f1] at e4
      exact ⟨p, (Option.some.inj e4).trans (show u' = Value.ref p from ru), hp⟩
    clear of pm pw he old lb
    induction out generalizing bl' with
    | nil => exact ⟨[], .nil, by simpa using lo, fun j b e => by
        cases bl' with
        | nil => cases e
        | cons x l => simp at lo⟩
    | cons u out ih =>
      cases bl' with
      | nil => simp at lo
      | cons b bl' =>
        obtain ⟨p, rfl, hp⟩ := at_ 0 u b rfl rfl
        obtain ⟨zs, z1, z2, z3⟩ := ih bl' (by simpa using lo) fun j u b e1 e2 => at_ (j + 1) u b e1 e2
        refine ⟨.ref p :: zs, .cons rfl z1, by simp [z2], fun j c e => ?_⟩
        cases j with
        | zero => cases e; exact ⟨p, rfl, hp⟩
        | succ j => exact z3 j c e
  have fin := q bl' zs h1.objs.size pm pw hz2 (I.hok.fresh sz1)
  refine wpAny_pure ⟨_, rfl, .ref h1.objs.size, _, I.laid (a := h1.objs.size) (t' := s.toks) (o := .lst zs) old sz1 ?_, rfl, fin⟩
  exact ⟨by rw [hz2.1, lb, sizeLine_eq]; omega, _, e, rz, he⟩
end L2
end
section
namespace K82
open PySem PySem.Spec PyProof.Rows L2
set_option maxHeartbeats 4000000
set_option Elab.async false
set_option linter.unusedVariables false
def top (i : Nat) : Stmt := PySem.Challenge.pw_boxballs_k82_all_rows_of_few_boxes.main.body.getD i (.Pass ⟨0, 0, 0, 0⟩)
abbrev s_is_number : Stmt := top 8
theorem sc_is_number : FnScope ["thing", "least", "greatest"] ["thing", "least", "greatest"] (defScope s_is_number) := ⟨rfl, rfl, rfl, by decide +kernel, rfl, by decide +kernel, by decide +kernel⟩
abbrev s_need_number : Stmt := top 9
theorem sc_need_number : FnScope ["thing", "least", "greatest"] ["thing", "least", "greatest"] (defScope s_need_number) := ⟨rfl, rfl, rfl, by decide +kernel, rfl, by decide +kernel, by decide +kernel⟩
abbrev s_ways : Stmt := top 12
theorem sc_ways : FnScope ["boxes", "balls", "laid", "turn"] ["boxes", "balls"] (defScope s_ways) := ⟨rfl, rfl, rfl, by decide +kernel, rfl, by decide +kernel, by decide +kernel⟩
abbrev s_counted_by_lengths : Stmt := top 17
abbrev s_all_rows : Stmt := top 20
theorem sc_all_rows : FnScope ["boxes", "balls"] ["boxes", "balls"] (defScope s_all_rows) := ⟨rfl, rfl, rfl, by decide +kernel, rfl, by decide +kernel, by decide +kernel⟩
abbrev s_by_lengths : Stmt := top 21
theorem sc_by_lengths : FnScope ["boxes", "balls"] ["boxes", "balls"] (defScope s_by_lengths) := ⟨rfl, rfl, rfl, by decide +kernel, rfl, by decide +kernel, by decide +kernel⟩
abbrev s_L_cell_at : Stmt := top 23
theorem sc_L_cell_at : FnScope ["_law_script", "_law_k"] ["_law_script", "_law_k"] (defScope s_L_cell_at) := ⟨rfl, rfl, rfl, by decide +kernel, rfl, by decide +kernel, by decide +kernel⟩
abbrev s_L_state : Stmt := top 24
theorem sc_L_state : FnScope ["_law_script", "_law_k", "_law_cell"] ["_law_script", "_law_k"] (defScope s_L_state) := ⟨rfl, rfl, rfl, by decide +kernel, rfl, by decide +kernel, by decide +kernel⟩
abbrev s_L_take : Stmt := top 25
theorem sc_L_take : FnScope ["_law_state_here", "_law_many", "_law_found", "_law_mixed"] ["_law_state_here", "_law_many"] (defScope s_L_take) := ⟨rfl, rfl, rfl, by decide +kernel, rfl, by decide +kernel, by decide +kernel⟩
abbrev s_L_whole : Stmt := top 26
theorem sc_L_whole : FnScope ["_law_thing"] ["_law_thing"] (defScope s_L_whole) := ⟨rfl, rfl, rfl, by decide +kernel, rfl, by decide +kernel, by decide +kernel⟩
abbrev s_L_same : Stmt := top 27
theorem sc_L_same : FnScope ["_law_found", "_law_due_here"] ["_law_found", "_law_due_here"] (defScope s_L_same) := ⟨rfl, rfl, rfl, by decide +kernel, rfl, by decide +kernel, by decide +kernel⟩
abbrev s_L_refused : Stmt := top 28
theorem sc_L_refused : FnScope ["_law_call", "_law_error", "e", "_law_sorts"] ["_law_call"] (defScope s_L_refused) := ⟨rfl, rfl, rfl, by decide +kernel, rfl, by decide +kernel, by decide +kernel⟩
abbrev s_L_due : Stmt := top 29
theorem sc_L_due : FnScope ["_law_boxes", "_law_balls", "_law_rows", "_law_box"] ["_law_boxes", "_law_balls"] (defScope s_L_due) := ⟨rfl, rfl, rfl, by decide +kernel, rfl, by decide +kernel, by decide +kernel⟩
abbrev s_law : Stmt := top 30
theorem sc_law : FnScope ["_law_script", "_law_k", "_law_state_here", "_law_boxes", "_law_balls", "_law_due_here", "_law_turn", "_law_found", "_law_odd", "_law_one", "_law_other", "_law_right"] ["_law_script"] (defScope s_law) := ⟨rfl, rfl, rfl, by decide +kernel, rfl, by decide +kernel, by decide +kernel⟩
/-! ### the draws -/
def Dok (x : Int) (b : Bool) : Prop := 0 ≤ x ∧ (b = false → x < 2147483647)
def StAt (H : Hp) (a : Addr) (x : Int) (b : Bool) : Prop := H a = some (.lst [.int x, .bl b]) ∧ Dok x b
/-- all but what stands at a is as it was -/
def Keep (a : Addr) (H H' : Hp) : Prop := ∀ c o, c ≠ a → H c = some o → H' c = some o
theorem at_ints {ns : List Int} {k : Int} (h0 : 0 ≤ k) (h1 : k < (ns.length : Int)) : ∃ v : Int, atI (ns.map V.int) k = some (.int v) ∧ ns[k.toNat]? = some v := by
  have hk : k.toNat < ns.length := by omega
  have ek : ((k.toNat : Nat) : Int) = k := by omega
  refine ⟨ns[k.toNat], ?_, List.getElem?_eq_getElem hk⟩
  have q : atI (ns.map V.int) ((k.toNat : Nat) : Int) = some (.int ns[k.toNat]) := atI_nat (by rw [List.getElem?_map, List.getElem?_eq_getElem hk] <;> rfl)
  rw [ek] at q
  exact q
def spCell (K : PySem.W.Frag) : Sp := fun vs H Q _ => ∃ (a : Addr) (ns : List Int) (k : Int), vs = [.ref a, .int k] ∧ SqL K H a (ns.map V.int) ∧ 0 ≤ k ∧ ∀ c : Int, Q (.int c) H
def spState (K : PySem.W.Frag) : Sp := fun vs H Q _ => ∃ (a : Addr) (ns : List Int) (k : Int), vs = [.ref a, .int k] ∧ SqL K H a (ns.map V.int) ∧ 0 ≤ k ∧
  ∀ (r : Addr) (x : Int) (b : Bool), H r = none → Dok x b → Q (.ref r) (upd H r (.lst [.int x, .bl b]))
def spTake (K : PySem.W.Frag) : Sp := fun vs H Q _ => ∃ (a : Addr) (x : Int) (b : Bool) (m : Int), vs = [.ref a, .int m] ∧ StAt H a x b ∧ 0 < m ∧ m < 1073741824 ∧
  ∀ (v x' : Int), 0 ≤ v → v < m → Dok x' b → Q (.int v) (upd H a (.lst [.int x', .bl b]))
section
variable {P : Program} {w : World} {K : PySem.W.Frag} {mg : Str → Option Value} {base : Heap}
set_option maxRecDepth 100000 in
theorem ok_L_cell_at {f : Addr} {fd : FuncData} (F : Fun K "_law_cell_at" "_law_cell_at" s_L_cell_at f fd) (nb : Nb mg)   :
    FnOk P w K mg base CX0 1 f fd ["_law_script", "_law_k"] (spCell K) := by
  have nd := sc_L_cell_at.nd
  refine F.ok (k := 0) sc_L_cell_at (fun vs H Q E h => ?_) (fun cdv A outer s H vs Q E hr h => ?_)
  · obtain ⟨a, ns, k, rfl, _⟩ := h
    rfl
  obtain ⟨a, ns, k, rfl, hS, h0, q⟩ := h
  refine ⟨_, (pss_cons (ps_if (pt_cmpR op_lt (pv 1) (pe_callB call_len_seq rfl nb.len PySem.boot_len (pa_cons (pv 0) pa_nil)) (nomark _))
   (pss_one (ps_ret (pe_ix ix_list (pv 0) (pv 1) (fun _ _ => rfl))))
   pss_nil)
  (pss_one (ps_ret pe_int))), ?_⟩
  refine ⟨_, rfl, _, rfl, a, _, rfl, .inl hS, _, _, rfl, rfl, _, rfl, ?_⟩
  refine ite2 (fun c => ?_) (fun c => ?_)
  · have c' : k < (((ns.map V.int).length : Nat) : Int) := of_decide_eq_true c
    rw [List.length_map] at c'
    obtain ⟨v, q1, _⟩ := at_ints h0 c'
    exact ⟨_, rfl, _, rfl, a, _, _, _, rfl, rfl, hS, q1, q _⟩
  · exact q 0
set_option maxRecDepth 100000 in
theorem ok_L_state {f : Addr} {fd : FuncData} (F : Fun K "_law_state" "_law_state" s_L_state f fd) (nb : Nb mg) (h_L_cell_at : Has P w K mg base 1 "_law_cell_at" ["_law_script", "_law_k"] (spCell K))  :
    FnOk P w K mg base CX0 2 f fd ["_law_script", "_law_k"] (spState K) := by
  have nd := sc_L_state.nd
  refine F.ok (k := 1) sc_L_state (fun vs H Q E h => ?_) (fun cdv A outer s H vs Q E hr h => ?_)
  · obtain ⟨a, ns, k, rfl, _⟩ := h
    rfl
  obtain ⟨a, ns, k, rfl, hS, h0, q⟩ := h
  refine ⟨_, (pss_cons (ps_set (i := 2) nd rfl (Or.inl rfl) (pe_def h_L_cell_at hr (pa_cons (pv 0) (pa_cons (pv 1) pa_nil))))
  (pss_cons (ps_if (pt_cmpR op_ge (pv 2) (pe_op op_pow pe_int pe_int) (nomark _))
   (pss_one (ps_ret (pe_lst (pa_cons (pe_op op_sub (pv 2) (pe_op op_pow pe_int pe_int)) (pa_cons pe_bl pa_nil)))))
   pss_nil)
  (pss_one (ps_ret (pe_lst (pa_cons (pe_op op_mod (pv 2) pe_int) (pa_cons pe_bl pa_nil))))))), ?_⟩
  refine ⟨_, rfl, _, rfl, a, ns, k, rfl, hS, h0, fun c => ?_⟩
  refine ⟨_, rfl, _, _, rfl, rfl, ⟨by decide, by decide, by decide⟩, _, _, rfl, rfl, _, rfl, ?_⟩
  refine ite2 (fun z => ?_) (fun z => ?_)
  · have z' : (10 : Int) ^ 18 ≤ c := of_decide_eq_true z
    refine ⟨_, rfl, _, _, rfl, rfl, ⟨by decide, by decide, by decide⟩, _, _, rfl, rfl, (by show 2 ≤ sizeLine; decide), fun r hr' => q r _ true hr' ⟨?_, fun e => by cases e⟩⟩
    show (0 : Int) ≤ c - 10 ^ 18
    omega
  · refine ⟨_, rfl, _, _, rfl, rfl, (by show (0 : Int) < 2147483647; decide), (by show 2 ≤ sizeLine; decide), fun r hr' => q r _ false hr' ⟨?_, fun _ => ?_⟩⟩
    · exact Int.emod_nonneg _ (by decide)
    · exact Int.emod_lt_of_pos _ (by decide)
set_option maxRecDepth 100000 in
theorem ok_L_take {f : Addr} {fd : FuncData} (F : Fun K "_law_take" "_law_take" s_L_take f fd) (nb : Nb mg)   :
    FnOk P w K mg base CX0 1 f fd ["_law_state_here", "_law_many"] (spTake K) := by
  have nd := sc_L_take.nd
  refine F.ok (k := 0) sc_L_take (fun vs H Q E h => ?_) (fun cdv A outer s H vs Q E hr h => ?_)
  · obtain ⟨a, x, b, m, rfl, _⟩ := h
    rfl
  obtain ⟨a, x, b, m, rfl, ⟨hS, d0, d1⟩, m0, m1, q⟩ := h
  refine ⟨_, (pss_cons (ps_if (pt_truth (pe_ix ix_list (pv 0) pe_int (fun _ _ => rfl)) (fun _ => rfl))
   (pss_cons (ps_set (i := 2) nd rfl (Or.inl rfl) (pe_op op_mod (pe_ix ix_list (pv 0) pe_int (fun _ _ => rfl)) (pv 1)))
  (pss_cons (ps_asg (pe_op op_fdiv (pe_ix ix_list (pv 0) pe_int (fun _ _ => rfl)) (pv 1)) (pg_sub (pv 0) pe_int set_list))
  (pss_one (ps_ret (pv 2)))))
   pss_nil)
  (pss_cons (ps_asg (pe_op op_mod (pe_op op_add (pe_op op_mul (pe_ix ix_list (pv 0) pe_int (fun _ _ => rfl)) pe_int) pe_int) pe_int) (pg_sub (pv 0) pe_int set_list))
  (pss_cons (ps_set (i := 3) nd rfl (Or.inl rfl) (pe_op op_mod (pe_op op_add (pe_op op_add (pe_op op_mul (pe_ix ix_list (pv 0) pe_int (fun _ _ => rfl)) (pe_ix ix_list (pv 0) pe_int (fun _ _ => rfl))) (pe_op op_mul pe_int (pe_ix ix_list (pv 0) pe_int (fun _ _ => rfl)))) pe_int) pe_int))
  (pss_cons (ps_set (i := 3) nd rfl (Or.inl rfl) (pe_op op_mod (pe_op op_add (pe_op op_mul (pv 3) (pv 3)) (pe_op op_mul pe_int (pv 3))) pe_int))
  (pss_one (ps_ret (pe_op op_mod (pe_op op_fdiv (pv 3) pe_int) (pv 1)))))))), ?_⟩
  refine ⟨_, rfl, a, _, _, _, rfl, rfl, SqL.of hS, rfl, b, rfl, ?_⟩
  cases b with
  | true =>
    refine iteT ?_
    refine ⟨_, rfl, a, _, _, _, rfl, rfl, SqL.of hS, rfl, _, rfl, _, _, rfl, rfl, m0, ?_⟩
    refine ⟨_, rfl, a, _, _, _, rfl, rfl, SqL.of hS, rfl, _, rfl, _, _, rfl, rfl, ⟨m0, m1⟩, ?_⟩
    refine ⟨_, rfl, a, _, _, 0, rfl, rfl, hS, rfl, ?_⟩
    refine ⟨_, rfl, ?_⟩
    exact q _ _ (Int.emod_nonneg _ (by omega)) (Int.emod_lt_of_pos _ m0) ⟨Int.ediv_nonneg d0 (by omega), fun e => by cases e⟩
  | false =>
    refine iteF ?_
    have d2 := d1 rfl
    refine ⟨_, rfl, a, _, _, _, rfl, rfl, SqL.of hS, rfl, _, _, rfl, rfl, .inl ⟨by omega, by omega⟩, _, _, rfl, rfl, _, _, rfl, rfl, (by show (0 : Int) < 2147483647; decide), ?_⟩
    refine ⟨_, rfl, a, _, _, 0, rfl, rfl, hS, rfl, ?_⟩
    have e0 : (0 : Int) ≤ (x * 48271 + 29) % 2147483647 := Int.emod_nonneg _ (by decide)
    have e1 : (x * 48271 + 29) % 2147483647 < 2147483647 := Int.emod_lt_of_pos _ (by decide)
    refine ⟨_, rfl, a, _, _, _, rfl, rfl, SqL.of upd_same, rfl, _, rfl, a, _, _, _, rfl, rfl, SqL.of upd_same, rfl, _, _, rfl, rfl, .inl ⟨by omega, by omega⟩, _, rfl, a, _, _, _, rfl, rfl, SqL.of upd_same, rfl, _, _, rfl, rfl, .inl ⟨by decide, by decide⟩, _, _, rfl, rfl, _, _, rfl, rfl, _, _, rfl, rfl, (by show (0 : Int) < 2147483629; decide), ?_⟩
    refine ⟨_, rfl, _, rfl, _, _, rfl, rfl, .inl ⟨?_, ?_⟩, _, rfl, _, _, rfl, rfl, .inl ⟨by decide, by decide⟩, _, _, rfl, rfl, _, _, rfl, rfl, (by show (0 : Int) < 2147483587; decide), ?_⟩
    · exact Int.lt_of_lt_of_le (by decide) (Int.emod_nonneg _ (by decide))
    · exact Int.lt_trans (Int.emod_lt_of_pos _ (by decide)) (by decide)
    refine ⟨_, rfl, _, _, rfl, rfl, ⟨by decide, by decide⟩, _, rfl, _, _, rfl, rfl, m0, ?_⟩
    exact q _ _ (Int.emod_nonneg _ (by omega)) (Int.emod_lt_of_pos _ m0) ⟨e0, fun _ => e1⟩
end
end K82
end
section
namespace K82
open PySem PySem.Spec PyProof.Rows L2
set_option maxHeartbeats 4000000
set_option Elab.async false
set_option linter.unusedVariables false
/-! ### numbers and rows -/
def numB (lo hi : Int) : V → Bool
  | .int i => decide (lo ≤ i) && decide (i ≤ hi)
  | _ => false
theorem kn_cases {H : Hp} {v : V} {T : String} (h : Kn H v T) : (T = "bool" ∧ ∃ b, v = .bl b) ∨ (T = "int" ∧ ∃ i, v = .int i) ∨ (subT T "bool" = false ∧ subT T "int" = false ∧ ∀ lo hi, numB lo hi v = false) := by
  cases h with
  | bl b => exact .inl ⟨rfl, b, rfl⟩
  | int i => exact .inr (.inl ⟨rfl, i, rfl⟩)
  | _ => exact .inr (.inr ⟨by decide, by decide, fun _ _ => rfl⟩)
def spNum : Sp := fun vs H Q _ => ∃ (v : V) (T : String) (lo hi : Int), vs = [v, .int lo, .int hi] ∧ Kn H v T ∧ Q (.bl (numB lo hi v)) H
section
variable {P : Program} {w : World} {K : PySem.W.Frag} {mg : Str → Option Value} {base : Heap}
set_option maxRecDepth 100000 in
theorem ok_is_number {f : Addr} {fd : FuncData} (F : Fun K "is_number" "is_number" s_is_number f fd) (nb : Nb mg)   :
    FnOk P w K mg base CX0 1 f fd ["thing", "least", "greatest"] spNum := by
  have nd := sc_is_number.nd
  refine F.ok (k := 0) sc_is_number (fun vs H Q E h => ?_) (fun cdv A outer s H vs Q E hr h => ?_)
  · obtain ⟨v, T, lo, hi, rfl, _⟩ := h
    rfl
  obtain ⟨v, T, lo, hi, rfl, hk, q⟩ := h
  refine ⟨_, (pss_cons (ps_if (PW.pt (pw_or (pt_truth (pe_callB call_isi rfl nb.isi boot_isinstance (pa_cons (pv 0) (pa_cons (pe_ty nb.bool boot_bool) pa_nil))) (fun _ => rfl)) (pw_or1 (pt_not (pt_truth (pe_callB call_isi rfl nb.isi boot_isinstance (pa_cons (pv 0) (pa_cons (pe_ty nb.int boot_int) pa_nil))) (fun _ => rfl))))))
   (pss_one (ps_ret pe_bl))
   pss_nil)
  (pss_one (ps_ret (pe_chain op_le op_le (pv 1) (pv 0) (pv 2))))), ?_⟩
  refine ⟨_, rfl, _, _, _, rfl, hk, .inr (.inl rfl), _, rfl, ?_⟩
  rcases kn_cases hk with ⟨rfl, b, rfl⟩ | ⟨rfl, i, rfl⟩ | ⟨e1, e2, e3⟩
  · exact iteT (iteT q)
  · refine iteF ⟨_, rfl, _, _, _, rfl, hk, .inl rfl, _, rfl, iteF ?_⟩
    refine ⟨_, rfl, _, rfl, _, _, rfl, rfl, _, rfl, ?_⟩
    by_cases c : lo ≤ i
    · rw [if_pos (decide_eq_true c)]
      refine ⟨_, rfl, _, _, rfl, rfl, ?_⟩
      have e : numB lo hi (.int i) = decide (i ≤ hi) := by show (decide (lo ≤ i) && decide (i ≤ hi)) = _; rw [decide_eq_true c, Bool.true_and]
      rw [e] at q
      exact q
    · rw [if_neg (by rw [decide_eq_false c]; decide)]
      have e : numB lo hi (.int i) = false := by show (decide (lo ≤ i) && decide (i ≤ hi)) = _; rw [decide_eq_false c, Bool.false_and]
      rw [e] at q
      exact q
  · rw [e1]
    refine iteF ⟨_, rfl, _, _, _, rfl, hk, .inl rfl, _, rfl, ?_⟩
    rw [e2]
    rw [e3] at q
    exact iteT q
end
end K82
end
section
namespace K82
open PySem PySem.Spec PyProof.Rows L2
set_option maxHeartbeats 4000000
set_option Elab.async false
set_option linter.unusedVariables false
def spSame : Nat → Sp
  | 0 => fun _ _ _ _ => False
  | n + 1 => fun vs H Q _ => ∃ x y : V, vs = [x, y] ∧ Sm H n x y ∧ ∀ H', Same H H' → Q (.bl true) H'
theorem same_flat {H : Hp} {x y : V} (h : x = y ∧ ((∃ i, x = .int i) ∨ (∃ b, x = .bl b) ∨ (∃ z, x = .str z) ∨ x = .non)) : ∃ T, Kn H x T ∧ Kn H y T ∧ seqT T = false ∧ scal x y = true ∧ x = y := by
  obtain ⟨rfl, h⟩ := h
  rcases h with ⟨i, rfl⟩ | ⟨b, rfl⟩ | ⟨z, rfl⟩ | rfl
  · exact ⟨_, .int i, .int i, rfl, rfl, rfl⟩
  · exact ⟨_, .bl b, .bl b, rfl, rfl, rfl⟩
  · exact ⟨_, .str z, .str z, rfl, rfl, rfl⟩
  · exact ⟨_, .non, .non, rfl, rfl, rfl⟩
theorem Sm.cases {H : Hp} {n : Nat} {x y : V} (h : Sm H n x y) : (∃ T, Kn H x T ∧ Kn H y T ∧ seqT T = false ∧ scal x y = true ∧ x = y) ∨
    ∃ (m : Nat) (a b : Addr) (xs ys : List V), n = m + 1 ∧ x = .ref a ∧ y = .ref b ∧ ((H a = some (.tup xs) ∧ H b = some (.tup ys)) ∨ (H a = some (.lst xs) ∧ H b = some (.lst ys))) ∧ xs.length = ys.length ∧ xs.length ≤ 1000 ∧
      ∀ (i : Nat) (u v : V), xs[i]? = some u → ys[i]? = some v → Sm H m u v := by
  cases n with
  | zero => exact .inl (same_flat h)
  | succ n =>
    rcases h with h | ⟨a, b, xs, ys, h⟩
    · exact .inl (same_flat h)
    · exact .inr ⟨n, a, b, xs, ys, rfl, h⟩
theorem is_same {α : Type} [DecidableEq α] {x y : α} (e : x = y) : V.bl (decide (x = y)) = .bl true := by rw [decide_eq_true e]
theorem no_diff {α : Type} [DecidableEq α] {x y : α} (e : x = y) : V.bl (!decide (x = y)) = .bl false := by rw [decide_eq_true e]; rfl
theorem none_left {P : Program} {w : World} {K : PySem.W.Frag} {mg : Str → Option Value} {base : Heap} {f : Addr} {fd : FuncData} : FnOk P w K mg base CX0 0 f fd ["_law_found", "_law_due_here"] (spSame 0) :=
  ⟨fun vs H Q E h => h.elim, fun A outer s H args us vs Q E _ _ _ _ h => h.elim⟩
section
variable {P : Program} {w : World} {K : PySem.W.Frag} {mg : Str → Option Value} {base : Heap}
set_option maxRecDepth 100000 in
theorem ok_L_same {f : Addr} {fd : FuncData} (F : Fun K "_law_same" "_law_same" s_L_same f fd) {n : Nat} (nb : Nb2 mg) (h_L_same : Has P w K mg base n "_law_same" ["_law_found", "_law_due_here"] (spSame n))  :
    FnOk P w K mg base CX0 (n + 1) f fd ["_law_found", "_law_due_here"] (spSame (n + 1)) := by
  have nd := sc_L_same.nd
  refine F.ok (k := n) sc_L_same (fun vs H Q E h => ?_) (fun cdv A outer s H vs Q E hr h => ?_)
  · obtain ⟨x, y, rfl, _⟩ := h
    rfl
  obtain ⟨x, y, rfl, sm, q⟩ := h
  refine ⟨_, (pss_cons (ps_if (pt_truth (pe_callB call_isiT rfl nb.isi boot_isinstance (pa_cons (pv 1) (pa_cons (pe_tup (pa_cons (pe_ty nb.tuple boot_tuple) (pa_cons (pe_ty nb.list boot_list) pa_nil))) pa_nil))) (fun _ => rfl))
(pss_cons (ps_if (PW.pt (pw_or (pt_cmpR op_ne (pe_callB call_isi rfl nb.isi boot_isinstance (pa_cons (pv 0) (pa_cons (pe_ty nb.tuple boot_tuple) pa_nil))) (pe_callB call_isi rfl nb.isi boot_isinstance (pa_cons (pv 1) (pa_cons (pe_ty nb.tuple boot_tuple) pa_nil))) (nomark _)) (pw_or1 (pt_cmpR op_ne (pe_callB call_isi rfl nb.isi boot_isinstance (pa_cons (pv 0) (pa_cons (pe_ty nb.list boot_list) pa_nil))) (pe_callB call_isi rfl nb.isi boot_isinstance (pa_cons (pv 1) (pa_cons (pe_ty nb.list boot_list) pa_nil))) (nomark _)))))
(pss_one (ps_ret pe_bl))
pss_nil)
(pss_one (ps_ret (pe_and (pe_cmpR op_eq (pe_callB call_len_seq rfl nb.len PySem.boot_len (pa_cons (pv 0) pa_nil)) (pe_callB call_len_seq rfl nb.len PySem.boot_len (pa_cons (pv 1) pa_nil)) (nomark _)) (pe_one (pe_callB (call_allB rfl) rfl nb.all boot_all (pa_cons (pe_comp2 (sc := defScope s_L_same) (N0 := ["_law_found", "_law_due_here"]) (N := []) (js := []) rfl rfl rfl (by exact ⟨rfl, by decide +kernel, by decide +kernel, by decide +kernel, rfl, rfl, by decide, by decide +kernel, by decide +kernel⟩) rfl rfl
(pi_zipE rfl nb.zip (pa_cons (pv 0) (pa_cons (pv 1) pa_nil)))
(fun _ _ _ _ _ => by exact pts_nil)
(fun _ _ _ _ _ => by exact (pe_def (hk := Nat.le_refl _) h_L_same hr (pa_cons (pv 0) (pa_cons (pv 1) pa_nil))))) pa_nil)))))))
pss_nil)
(pss_one (ps_ret (pe_and (pe_cmpR op_eq (pv 0) (pv 1) (nomark _)) (pe_one (pe_cmpR op_eq (pe_callB call_isi rfl nb.isi boot_isinstance (pa_cons (pv 0) (pa_cons (pe_ty nb.bool boot_bool) pa_nil))) (pe_callB call_isi rfl nb.isi boot_isinstance (pa_cons (pv 1) (pa_cons (pe_ty nb.bool boot_bool) pa_nil))) (nomark _))))))), ?_⟩
  refine ⟨_, rfl, (by show 2 ≤ sizeLine; decide), fun p hp => ?_⟩
  have s1 := same_new hp (.tup [.ty "tuple", .ty "list"])
  have sm1 := sm.same s1
  rcases Sm.cases sm1 with ⟨T, kx, ky, sq, sc, exy⟩ | ⟨m, a, b, xs, ys, rfl, rfl, rfl, ab, hl, hz, hs⟩
  · refine ⟨_, _, _, rfl, ky, .inr upd_same, _, rfl, ?_⟩
    rw [sq]
    refine iteF ?_
    refine ⟨_, rfl, _, rfl, sc, true, is_same exy, iteT ?_⟩
    refine ⟨_, rfl, _, _, _, rfl, kx, .inr (.inl rfl), _, rfl, _, _, _, rfl, ky, .inr (.inl rfl), rfl, ?_⟩
    rw [is_same rfl]
    exact q _ s1
  · have hp1 : (upd H p (.tup [.ty "tuple", .ty "list"])) p = some (.tup [.ty "tuple", .ty "list"]) := upd_same
    generalize upd H p (.tup [.ty "tuple", .ty "list"]) = H1 at s1 sm1 ab hs hp1 ⊢
    have hh : ∃ T, Kn H1 (.ref a) T ∧ Kn H1 (.ref b) T ∧ seqT T = true ∧ (SqL K H1 a xs ∨ SqT K H1 a xs) ∧ (SqL K H1 b ys ∨ SqT K H1 b ys) ∧ ∃ t, SqK t K H1 a xs ∧ SqK t K H1 b ys ∧
        ∀ i H2, Same H1 H2 → (i < min xs.length ys.length → (Itz t K a b).go i H2 ∧ ∀ v H3, (Itz t K a b).yld i H2 v H3 → Same H2 H3 ∧ ∃ p x y, v = .ref p ∧ H3 p = some (.tup [x, y]) ∧ xs[i]? = some x ∧ ys[i]? = some y) ∧ (min xs.length ys.length ≤ i → (Itz t K a b).stop i H2) := by
      rcases ab with ⟨h1, h2⟩ | ⟨h1, h2⟩
      · exact ⟨_, .tup h1, .tup h2, rfl, .inr (SqT.of h1), .inr (SqT.of h2), true, SqT.of h1, SqT.of h2, items_zip h1 h2⟩
      · exact ⟨_, .lst h1, .lst h2, rfl, .inl (SqL.of h1), .inl (SqL.of h2), false, SqL.of h1, SqL.of h2, items_zipL h1 h2⟩
    obtain ⟨T, kx, ky, sq, sx, sy, t, q1, q2, its⟩ := hh
    refine ⟨_, _, _, rfl, ky, .inr hp1, _, rfl, ?_⟩
    rw [sq]
    refine iteT ?_
    refine ⟨_, rfl, _, _, _, rfl, kx, .inr (.inr (.inl rfl)), _, rfl, _, _, _, rfl, ky, .inr (.inr (.inl rfl)), rfl, false, no_diff rfl, iteF ?_⟩
    refine ⟨_, rfl, _, _, _, rfl, kx, .inr (.inr (.inr rfl)), _, rfl, _, _, _, rfl, ky, .inr (.inr (.inr rfl)), rfl, false, no_diff rfl, iteF ?_⟩
    refine ⟨_, rfl, a, xs, rfl, sx, _, rfl, b, ys, rfl, sy, rfl, true, is_same (by rw [hl]), iteT ?_⟩
    refine ⟨_, rfl, _, rfl, t, a, b, xs, ys, rfl, q1, q2, fun D hD => ?_⟩
    refine comp_go (min xs.length ys.length) (by rw [sizeLine_eq]; omega) (fun _ => .bl true) (fun σ => ∃ o1 o2, σ = [o1, o2]) _ hD ⟨_, _, rfl⟩ its (fun i z σ' H2 hi s2 im' hσ R hR => ?_) (fun H' s' hD' => ?_)
    · obtain ⟨o1, o2, rfl⟩ := hσ
      obtain ⟨r, u, v, rfl, hr', hu, hv⟩ := im'
      refine ⟨r, _, rfl, SqT.of hr', rfl, _, _, rfl, _, _, rfl, rfl, ?_⟩
      exact ⟨_, rfl, _, rfl, u, v, rfl, (hs i u v hu hv).same s2, fun H3 s3 => hR _ _ _ ⟨_, _, rfl⟩ s3 rfl⟩
    · have e : (List.range (min xs.length ys.length)).map (fun _ => V.bl true) = (List.replicate (min xs.length ys.length) true).map V.bl := by
        rw [List.map_const', List.length_range, List.map_replicate]
      rw [e] at hD'
      refine ⟨D, _, rfl, SqL.of hD', ?_⟩
      have e2 : (List.replicate (min xs.length ys.length) true).all id = true := by rw [List.all_eq_true]; intro x hx; rw [List.eq_of_mem_replicate hx]; rfl
      rw [e2]
      exact q _ (s1.trans s')
end
end K82
end
section
namespace K82
open PySem PySem.Spec PyProof.Rows L2
set_option maxHeartbeats 4000000
set_option maxRecDepth 100000
set_option Elab.async false
set_option linter.unusedVariables false
def spWays : Sp := fun vs H Q _ => ∃ (N k : Nat), vs = [.int (N : Int), .int (k : Int)] ∧ N ≤ 10 ∧ k ≤ 10 ∧
  ∀ (l : Addr) (H' : Hp), Same H H' → H l = none → TL H' l ((BB.waysL N k).map (·.map V.int)) → Q (.ref l) H'
theorem at_last {ns : List Int} {q : Int} (h : ns.getLast? = some q) : atI (ns.map V.int) (-1) = some (.int q) := by
  have ne : ns ≠ [] := fun z => by rw [z] at h; cases h
  have l0 : 0 < ns.length := List.length_pos_iff.mpr ne
  have e : ixN (ns.map V.int).length (-1) = some (ns.length - 1) := by
    unfold ixN
    rw [List.length_map, if_neg (by decide), if_pos (by omega)]
    congr 1
    omega
  unfold atI
  rw [e]
  show (ns.map V.int)[ns.length - 1]? = _
  rw [List.getElem?_map]
  rw [List.getLast?_eq_getElem?] at h
  rw [h]
  rfl
theorem none_of {H H' : Hp} {a : Addr} (s : Same H H') (h : H' a = none) : H a = none := by
  cases e : H a with
  | none => rfl
  | some o => rw [s _ _ e] at h; cases h
theorem flat_take (L : List (List Int)) (g : List Int → List (List Int)) (m : List Int → List V) : ∀ j, j ≤ L.length → (List.range j).flatMap (fun j => (g (L.getD j [])).map m) = ((L.take j).flatMap g).map m
  | 0, _ => rfl
  | j + 1, h => by
    rw [List.range_succ, List.flatMap_append, flat_take L g m j (by omega), List.flatMap_singleton, List.take_succ, List.flatMap_append, List.map_append, List.getElem?_eq_getElem (by omega), List.getD_eq_getElem?_getD, List.getElem?_eq_getElem (by omega)]
    congr 1
    show _ = List.map m ([L[j]].flatMap g)
    rw [List.flatMap_singleton]
    rfl
theorem nxt_rd {K : PySem.W.Frag} {a : Addr} {w : List Int} {H : Hp} {σ : L2.St} {Q : VK} (h0 : σ[0]? = some (some (.ref a))) (ha : H a = some (.tup (w.map V.int))) (q : Q (.int (BB.nxt w)) H) :
    tIf (fun σ H Q => tVar 0 σ H fun x H' => ∃ k, TruV K x H' k ∧ Q k H') (tOp (rI0 fun i j => V.int (i + j)) (tOp (rIxT K) (tVar 0) (tUn (rU fun i => V.int (-i)) (tC (V.int 1)))) (tC (V.int 1))) (tC (V.int 0)) σ H Q := by
  refine ⟨_, h0, !(w.map V.int).isEmpty, .inr (.inl ⟨_, SqT.of ha, rfl⟩), ?_⟩
  rcases List.eq_nil_or_concat w with rfl | ⟨l, x, rfl⟩
  · exact iteF q
  · rw [List.concat_eq_append] at ha q ⊢
    rw [BB.nxt_last] at q
    have e : (!((l ++ [x]).map V.int).isEmpty) = true := by simp
    rw [e]
    refine iteT ⟨_, h0, _, rfl, a, _, _, .int x, rfl, rfl, SqT.of ha, at_last (by simp), _, _, rfl, rfl, q⟩
section
variable {P : Program} {w : World} {K : PySem.W.Frag} {mg : Str → Option Value} {base : Heap}
set_option maxRecDepth 100000 in
theorem ok_ways {f : Addr} {fd : FuncData} (F : Fun K "ways" "ways" s_ways f fd) (nb : Nb mg)   :
    FnOk P w K mg base CX0 1 f fd ["boxes", "balls"] spWays := by
  have nd := sc_ways.nd
  refine F.ok (k := 0) sc_ways (fun vs H Q E h => ?_) (fun cdv A outer s H vs Q E hr h => ?_)
  · obtain ⟨N, k, rfl, _⟩ := h
    rfl
  obtain ⟨N, k, rfl, N10, k10, q⟩ := h
  refine ⟨_, (pss_cons (ps_set (i := 2) nd rfl (Or.inl rfl) (pe_lst (pa_cons (pe_tup pa_nil) pa_nil)))
(pss_cons (ps_for PassesOwn.never rfl (pi_range1 rfl nb.range (pa_cons (pv 1) pa_nil)) (pg_name (i := 3) nd rfl (Or.inl rfl))
(pss_one (ps_compO1 (ii := 2) nd rfl (Or.inl rfl) (sc := defScope s_ways) (N0 := ["boxes", "balls", "laid", "turn"]) (N := ["boxes"]) (js := [0]) rfl rfl rfl (by exact ⟨rfl, by decide +kernel, by decide +kernel, by decide +kernel, rfl, rfl, by decide, by decide +kernel, by decide +kernel⟩) rfl rfl
(pi_list (pv 2))
(fun _ _ _ _ _ => by exact (pi_range2 rfl nb.range (pa_cons (pe_ifExp (pt_truthW K rfl (pv 0) (fun _ => rfl)) (pe_op op_add (pe_ix (show IxR _ (rIxT K) from ix_tup) (pv 0) (pe_un un_neg pe_int) (fun _ _ => rfl)) pe_int) pe_int) (pa_cons (pv 2) pa_nil))))
(fun _ _ _ _ _ => by exact (pe_op (op_catW K rfl) (pv 0) (pe_tup (pa_cons (pv 1) pa_nil)))))))
(pss_one (ps_ret (pv 2))))), ?_⟩
  refine ⟨(by show 0 ≤ sizeLine; decide), fun p0 hp0 => ⟨(by show 1 ≤ sizeLine; decide), fun l0 hl0 => ?_⟩⟩
  have s0 := (same_new hp0 (.tup [])).trans (same_new hl0 (.lst [.ref p0]))
  have n0' : H l0 = none := none_of (same_new hp0 (.tup [])) hl0
  have t0 : TL (upd (upd H p0 (.tup [])) l0 (.lst [.ref p0])) l0 ((BB.waysL N 0).map (·.map V.int)) := ⟨[.ref p0], upd_same, rfl, fun j y e => by
    match j, e with
    | 0, e => cases e; exact ⟨p0, rfl, same_new hl0 _ _ _ upd_same⟩⟩
  generalize upd (upd H p0 (.tup [])) l0 (.lst [.ref p0]) = H1 at s0 t0 ⊢
  refine ⟨_, rfl, (k : Int), rfl, by omega, by omega, ?_⟩
  refine for_range (fun i σ H' => ∃ (l : Addr) (o3 : Option V), σ = [some (.int (N : Int)), some (.int (k : Int)), some (.ref l), o3] ∧ Same H H' ∧ H l = none ∧ TL H' l ((BB.waysL N i).map (·.map V.int))) ⟨l0, _, rfl, s0, n0', t0⟩ (fun i σ H' hi hp => ?_) (fun σ H' hp => ?_)
  · obtain ⟨l, o3, rfl, sm, _, tl⟩ := hp
    have hik : i < k := by omega
    have tl0 := tl
    obtain ⟨ys, hl, hlen, hy⟩ := tl
    rw [List.length_map] at hlen
    refine ⟨_, rfl, l, rfl, ⟨_, SqL.of hl⟩, fun D hD => ?_⟩
    refine out_tups ys.length (fun j => (BB.wayF N ((BB.waysL N i).getD j [])).map (·.map V.int)) (fun σ => ∃ o1 o2, σ = [o1, o2, some (.int (N : Int))]) (fun j H2 x => ys[j]? = some x) (fun j hj => ?_) hD ⟨_, _, rfl⟩ (fun j H2 s2 => items_lst hl j H2 s2) (fun j x σ' H2 pre hj s2 im hσ tp hz N' hN => ?_) (fun H2 s2 t2 => ?_)
    · rw [flat_take _ _ _ j (by omega), List.length_map, sizeLine_eq]
      have := BB.part_ways N10 (show i + 1 ≤ 10 by omega) j
      omega
    · obtain ⟨o1, o2, rfl⟩ := hσ
      obtain ⟨pw, rfl, hpw⟩ := hy j x im
      have hj' : j < (BB.waysL N i).length := by omega
      have wm : (BB.waysL N i).getD j [] ∈ BB.waysL N i := by
        rw [List.getD_eq_getElem?_getD, List.getElem?_eq_getElem hj']
        exact List.getElem_mem hj'
      have wy := BB.mem_ways.mp wm
      rw [List.getD_eq_getElem?_getD, List.getElem?_map, List.getElem?_eq_getElem hj'] at hpw
      have hpw : H' pw = some (.tup (((BB.waysL N i).getD j []).map V.int)) := by
        rw [hpw, List.getD_eq_getElem?_getD, List.getElem?_eq_getElem hj']
        rfl
      generalize (BB.waysL N i).getD j [] = w at wy hpw hz hN
      obtain ⟨n0, n1, n2⟩ := BB.nxt_bd wy
      have hpw2 := s2 _ _ hpw
      have wl := wy.len
      refine nxt_rd rfl hpw2 ⟨_, rfl, _, _, rfl, ⟨by omega, by omega, by omega, by omega⟩, ?_⟩
      have en : ((N : Int) - BB.nxt w).toNat = N - (BB.nxt w).toNat := by omega
      rw [en]
      refine deep_tups (N - (BB.nxt w).toNat) (fun i => (w ++ [BB.nxt w + (i : Int)]).map V.int) pre (fun σ => ∃ o2, σ = [some (.ref pw), o2, some (.int (N : Int))]) (fun i H3 x => x = .int (BB.nxt w + (i : Int))) tp (by rw [List.length_map] at hz; unfold BB.wayF at hz; simpa [BB.row] using hz) ⟨_, rfl⟩ (fun i H3 b3 => items_rng (BB.nxt w) _ i H3 (Same.refl _)) (fun i x σ' H3 hi b3 im hσ R hR => ?_) (fun σ' H3 hσ b3 t3 => ?_)
      · obtain ⟨o2, rfl⟩ := hσ
        subst im
        have pD : pw ≠ D := fun z => by
          obtain ⟨zs, hzs, _⟩ := tp
          rw [← z, hpw2] at hzs
          cases hzs
        have hpw3 := b3 _ _ pD hpw2
        refine ⟨_, rfl, _, rfl, (by show 1 ≤ sizeLine; decide), fun p hp => ?_⟩
        have s4 := same_new hp (.tup [.int (BB.nxt w + (i : Int))])
        refine ⟨pw, p, _, _, rfl, rfl, s4 _ _ hpw3, upd_same, by rw [List.length_map, sizeLine_eq, wl]; simp; omega, fun p5 H5 s5 h5 => hR _ _ _ ⟨_, rfl⟩ (s4.trans s5) ?_⟩
        rw [h5, List.map_append]
        rfl
      · obtain ⟨o2, rfl⟩ := hσ
        refine hN _ _ ⟨_, _, rfl⟩ b3 ?_
        have e : (List.range (N - (BB.nxt w).toNat)).map (fun (i : Nat) => (w ++ [BB.nxt w + (i : Int)]).map V.int) = (BB.wayF N w).map (·.map V.int) := by
          unfold BB.wayF BB.row
          rw [List.map_map, List.map_map]
          rfl
        rw [← e]
        exact t3
    · rw [flat_take _ _ _ _ (by omega), hlen, List.take_length] at t2
      exact ⟨D, _, rfl, sm.trans s2, none_of sm hD, t2⟩
  · obtain ⟨l, o3, rfl, sm, nl, tl⟩ := hp
    rw [Int.toNat_natCast] at tl
    exact ⟨_, rfl, q l H' sm nl tl⟩
end
end K82
end
section
namespace K82
open PySem PySem.Spec PyProof.Rows L2
set_option maxHeartbeats 4000000
set_option maxRecDepth 100000
set_option Elab.async false
set_option linter.unusedVariables false
structure Nb4 (mg : Str → Option Value) : Prop extends Nb3 mg where
  sum : mg "sum" = none
  verr : mg "ValueError" = none
theorem boot_VErr : bootBuiltins "ValueError" = some (.type "ValueError") := by decide +kernel
/-- the classes of refusals: b their base -/
structure Errs (K : PySem.W.Frag) (mg : Str → Option Value) (b c0 c1 c2 c3 c4 : Addr) : Prop where
  mb : mg "BallError" = some (.ref b)
  m0 : mg "NoNumber" = some (.ref c0)
  m1 : mg "NotFree" = some (.ref c1)
  m2 : mg "TooLong" = some (.ref c2)
  m3 : mg "NoRow" = some (.ref c3)
  m4 : mg "BadNote" = some (.ref c4)
  eb : ∃ bm, Exc K b bm
/-- C is the i-th of them -/
structure Kind5 (K : PySem.W.Frag) (c0 c1 c2 c3 c4 C : Addr) (i : Nat) : Prop where
  k0 : PySem.W.kitOne K (.ref C) (.ref c0) = some (decide (0 = i))
  k1 : PySem.W.kitOne K (.ref C) (.ref c1) = some (decide (1 = i))
  k2 : PySem.W.kitOne K (.ref C) (.ref c2) = some (decide (2 = i))
  k3 : PySem.W.kitOne K (.ref C) (.ref c3) = some (decide (3 = i))
  k4 : PySem.W.kitOne K (.ref C) (.ref c4) = some (decide (4 = i))
  kv : PySem.W.kitOne K (.ref C) (.type "ValueError") = some true
  lt : i < 5
def nameOf (i : Nat) : Str := (["number", "not free", "long", "row", "note"] : List Str).getD i ""
abbrev Rn : VK → VK := fun Q _ H1 => Q .non H1
def Ec (K : PySem.W.Frag) (b c0 c1 c2 c3 c4 : Addr) : VK → XK := fun Q c ea H1 => ∃ C bm e i, c = .ref C ∧ ea = some e ∧ H1 e = none ∧ ExcF K C bm ∧ (Value.ref C :: bm).contains (.ref b) = true ∧ Kind5 K c0 c1 c2 c3 c4 C i ∧
  ∀ H2, Same (upd H1 e (ExcO e C)) H2 → Q (.str (nameOf i)) H2
theorem runs_imp {P : Program} {w : World} {K : PySem.W.Frag} {mg : Str → Option Value} {base : Heap} {k : Nat} {f : Addr} {H : Hp} {Q Q' : VK} {E E' : XK} (r : Runs P w K mg base k f H Q E) (hq : ∀ v H1, Q v H1 → Q' v H1) (he : ∀ c a H1, E c a H1 → E' c a H1) :
    Runs P w K mg base k f H Q' E' := fun A outer s hr e0 => codeAny_mono (r A outer s hr e0) fun rs s' h => by
  cases rs with
  | error e => obtain ⟨a, c, H1, e1, F, q⟩ := h; exact ⟨a, c, H1, e1, F, he _ _ _ q⟩
  | ok fl =>
    cases fl with
    | ret u => obtain ⟨v, H1, a, b, c, d, e, q⟩ := h; exact ⟨v, H1, a, b, c, d, e, hq _ _ q⟩
    | next => exact h
    | brk => exact h
    | cont => exact h
section
variable {P : Program} {w : World} {K : PySem.W.Frag} {mg : Str → Option Value} {base : Heap} {b c0 c1 c2 c3 c4 : Addr}
set_option maxRecDepth 100000 in
theorem ok_L_refused {f : Addr} {fd : FuncData} (F : Fun K "_law_refused" "_law_refused" s_L_refused f fd) (nb : Nb4 mg)   (er : Errs K mg b c0 c1 c2 c3 c4) :
    FnOk P w K mg base CX0 6 f fd ["_law_call"] (spRef P w K mg base 5 Rn (Ec K b c0 c1 c2 c3 c4)) := by
  have nd := sc_L_refused.nd
  refine F.ok (k := 5) sc_L_refused (fun vs H Q E h => ?_) (fun cdv A outer s H vs Q E hr h => ?_)
  · obtain ⟨f, o, fd, rfl, _⟩ := h
    rfl
  obtain ⟨f0, o, fd0, rfl, hf, hd, run⟩ := h
  obtain ⟨bm, eb⟩ := er.eb
  have c_NoNumber : ∃ u, mg "NoNumber" = some u ∧ RelV (.ref c0) u := ⟨_, er.m0, rfl⟩
  have c_NotFree : ∃ u, mg "NotFree" = some u ∧ RelV (.ref c1) u := ⟨_, er.m1, rfl⟩
  have c_TooLong : ∃ u, mg "TooLong" = some u ∧ RelV (.ref c2) u := ⟨_, er.m2, rfl⟩
  have c_NoRow : ∃ u, mg "NoRow" = some u ∧ RelV (.ref c3) u := ⟨_, er.m3, rfl⟩
  have c_BadNote : ∃ u, mg "BadNote" = some u ∧ RelV (.ref c4) u := ⟨_, er.m4, rfl⟩
  refine ⟨_, (pss_cons (ps_set (i := 1) nd rfl (Or.inl rfl) pe_non)
(pss_cons (ps_try (k := 2) ⟨rfl, rfl, rfl⟩ nd rfl rfl rfl er.mb eb (pb_call (i := 0) hr rfl rfl) (fun A E => by exact (pss_one (ps_set (i := 1) nd rfl (Or.inl rfl) (pv 2)))))
(pss_cons (ps_if (pt_cmpR op_isN (pv 1) pe_non (nomark _))
(pss_one (ps_ret pe_non))
pss_nil)
(pss_cons (ps_set (i := 3) nd rfl (Or.inl rfl) (pe_lst (pa_cons (pe_callB call_isiE rfl nb.isi boot_isinstance (pa_cons (pv 1) (pa_cons (pe_const c_NoNumber) pa_nil))) (pa_cons (pe_callB call_isiE rfl nb.isi boot_isinstance (pa_cons (pv 1) (pa_cons (pe_const c_NotFree) pa_nil))) (pa_cons (pe_callB call_isiE rfl nb.isi boot_isinstance (pa_cons (pv 1) (pa_cons (pe_const c_TooLong) pa_nil))) pa_nil)))))
(pss_cons (ps_set (i := 3) nd rfl (Or.inl rfl) (pe_op op_cat (pv 3) (pe_lst (pa_cons (pe_callB call_isiE rfl nb.isi boot_isinstance (pa_cons (pv 1) (pa_cons (pe_const c_NoRow) pa_nil))) (pa_cons (pe_callB call_isiE rfl nb.isi boot_isinstance (pa_cons (pv 1) (pa_cons (pe_const c_BadNote) pa_nil))) pa_nil)))))
(pss_cons (ps_if (PW.pt (pw_or (pt_not (pt_truth (pe_callB call_isiE rfl nb.isi boot_isinstance (pa_cons (pv 1) (pa_cons (pe_ty nb.verr boot_VErr) pa_nil))) (fun _ => rfl))) (pw_or1 (pt_cmpR op_ne (pe_callB (call_sumI rfl) rfl nb.sum boot_sum (pa_cons (pe_comp1 (sc := defScope s_L_refused) (N0 := ["_law_call", "_law_error", "e", "_law_sorts"]) (N := []) (js := []) rfl rfl rfl (by exact ⟨rfl, by decide +kernel, by decide +kernel, by decide +kernel, rfl, rfl, by decide, by decide +kernel, by decide +kernel⟩) rfl
(pi_list (pv 3))
(fun _ _ _ _ _ => by exact pts_nil)
(fun _ _ _ _ _ => by exact (pe_callTy call_int1 rfl nb.int boot_int (pa_cons (pv 0) pa_nil)))) pa_nil)) pe_int (nomark _)))))
(pss_one (ps_ret pe_str))
pss_nil)
(pss_one (ps_ret (pe_ix ix_list (pe_lst (pa_cons pe_str (pa_cons pe_str (pa_cons pe_str (pa_cons pe_str (pa_cons pe_str pa_nil)))))) (pe_bm PySem.F.plainAttrs_list PySem.F.slot_list_index PySem.F.type_list_index mt_indexT (pv 3) (pa_cons pe_bl pa_nil)) (fun _ _ => rfl)))))))))), ?_⟩
  refine ⟨f0, o, fd0, rfl, hf, hd, runs_imp run (fun v H1 q => ?_) (fun c ea H1 q => ?_)⟩
  · exact ⟨_, rfl, rfl, _, rfl, iteT q⟩
  obtain ⟨C, bm2, e, i, rfl, rfl, he, ex, hin, kd, q⟩ := q
  refine ⟨C, bm2, e, rfl, rfl, ex, hin, _, rfl, ?_⟩
  have hE : (upd H1 e (ExcO e C)) e = some (ExcO e C) := upd_same
  generalize upd H1 e (ExcO e C) = G at hE q ⊢
  refine ⟨_, rfl, rfl, _, rfl, iteF ?_⟩
  refine ⟨_, rfl, e, C, bm2, _, _, rfl, hE, ex, .inl ⟨c0, rfl, kd.k0⟩, _, rfl, e, C, bm2, _, _, rfl, hE, ex, .inl ⟨c1, rfl, kd.k1⟩, _, rfl, e, C, bm2, _, _, rfl, hE, ex, .inl ⟨c2, rfl, kd.k2⟩, (by show 3 ≤ sizeLine; decide), fun p1 hp1 => ?_⟩
  have s1 := same_new hp1 (.lst [.bl (decide (0 = i)), .bl (decide (1 = i)), .bl (decide (2 = i))])
  refine ⟨_, rfl, _, rfl, e, C, bm2, _, _, rfl, (s1 _ _ hE), ex, .inl ⟨c3, rfl, kd.k3⟩, _, rfl, e, C, bm2, _, _, rfl, (s1 _ _ hE), ex, .inl ⟨c4, rfl, kd.k4⟩, (by show 2 ≤ sizeLine; decide), fun p2 hp2 => ?_⟩
  have s2 := same_new hp2 (.lst [.bl (decide (3 = i)), .bl (decide (4 = i))])
  refine ⟨p1, p2, _, _, rfl, rfl, s2 _ _ upd_same, upd_same, (by show 5 ≤ sizeLine; decide), fun p3 hp3 => ?_⟩
  have s3 := same_new hp3 (.lst ([.bl (decide (0 = i)), .bl (decide (1 = i)), .bl (decide (2 = i))] ++ [.bl (decide (3 = i)), .bl (decide (4 = i))]))
  have h3 : (upd (upd (upd G p1 (.lst [.bl (decide (0 = i)), .bl (decide (1 = i)), .bl (decide (2 = i))])) p2 (.lst [.bl (decide (3 = i)), .bl (decide (4 = i))])) p3 (.lst ([.bl (decide (0 = i)), .bl (decide (1 = i)), .bl (decide (2 = i))] ++ [.bl (decide (3 = i)), .bl (decide (4 = i))]))) p3 = some (.lst ([decide (0 = i), decide (1 = i), decide (2 = i), decide (3 = i), decide (4 = i)].map V.bl)) := upd_same
  have s123 := s1.trans (s2.trans s3)
  generalize (upd (upd (upd G p1 (.lst [.bl (decide (0 = i)), .bl (decide (1 = i)), .bl (decide (2 = i))])) p2 (.lst [.bl (decide (3 = i)), .bl (decide (4 = i))])) p3 (.lst ([.bl (decide (0 = i)), .bl (decide (1 = i)), .bl (decide (2 = i))] ++ [.bl (decide (3 = i)), .bl (decide (4 = i))]))) = G3 at h3 s123 ⊢
  have hE3 := s123 _ _ hE
  refine ⟨_, rfl, e, C, bm2, _, _, rfl, hE3, ex, .inr ⟨"ValueError", rfl, kd.kv⟩, _, rfl, iteF ?_⟩
  generalize hbs : [decide (0 = i), decide (1 = i), decide (2 = i), decide (3 = i), decide (4 = i)] = bs at h3
  have l5 : bs.length = 5 := by rw [← hbs]; rfl
  refine ⟨_, rfl, p3, rfl, ⟨_, SqL.of h3⟩, fun D hD => ?_⟩
  refine comp_go 5 (by decide) (fun j => .int (if bs.getD j false then 1 else 0)) (fun σ => ∃ o1, σ = [o1]) _ hD (by exact ⟨_, rfl⟩) (by have := items_lst (K := K) h3; rw [List.length_map, l5] at this; exact this) (fun j x σ' H2 hi s4 im hσ R hR => ?_) (fun H' s' hD' => ?_)
  · obtain ⟨o1, rfl⟩ := hσ
    rw [List.getElem?_map, List.getElem?_eq_getElem (show j < bs.length by omega)] at im
    have ev : x = .bl (bs.getD j false) := by
      have z := Option.some.inj im
      rw [← z]
      simp [List.getD_eq_getElem?_getD, List.getElem?_eq_getElem (show j < bs.length by omega)]
    subst ev
    exact ⟨_, rfl, .inr ⟨_, rfl, hR _ _ _ ⟨_, rfl⟩ (Same.refl _) rfl⟩⟩
  · have h3' := s' _ _ h3
    have sm := s123.trans s'
    have e1 : ((List.range 5).map fun j => V.int (if bs.getD j false then 1 else 0)) = ((List.range 5).map fun j => if bs.getD j false then (1 : Int) else 0).map V.int := by rw [List.map_map]; rfl
    have i5 : i = 0 ∨ i = 1 ∨ i = 2 ∨ i = 3 ∨ i = 4 := by have := kd.lt; omega
    have e2 : ((List.range 5).map fun j => if bs.getD j false then (1 : Int) else 0).sum = 1 := by
      rw [← hbs]
      rcases i5 with rfl | rfl | rfl | rfl | rfl <;> decide
    have e3 : bs[i]? = some true ∧ ∀ j, j < i → bs[j]? = some false := by
      rw [← hbs]
      rcases i5 with rfl | rfl | rfl | rfl | rfl <;> decide
    refine ⟨D, _, rfl, SqL.of (hD'.trans (by rw [e1])), ?_⟩
    refine ⟨rfl, _, rfl, iteNS (congrArg V.int e2) ?_⟩
    have e4 : atI [V.str "number", V.str "not free", V.str "long", V.str "row", V.str "note"] ((i : Nat) : Int) = some (.str (nameOf i)) := by
      rcases i5 with rfl | rfl | rfl | rfl | rfl <;> exact atI_nat rfl
    refine ⟨(by show 5 ≤ sizeLine; decide), fun pn hpn => ?_⟩
    have s5 := same_new hpn (.lst [.str "number", .str "not free", .str "long", .str "row", .str "note"])
    exact ⟨_, rfl, .inl ⟨rfl, _, SqL.of (s5 _ _ h3')⟩, p3, bs, i, rfl, rfl, s5 _ _ h3', e3.1, e3.2, pn, _, _, _, rfl, rfl, SqL.of upd_same, e4, q _ (sm.trans s5)⟩
end
end K82
end
section
namespace K82
open PySem PySem.Spec PyProof.Rows L2
set_option maxHeartbeats 4000000
set_option maxRecDepth 100000
set_option Elab.async false
set_option linter.unusedVariables false
theorem num_true {lo hi v : Int} (h1 : lo ≤ v) (h2 : v ≤ hi) : numB lo hi (.int v) = true := by
  show (decide (lo ≤ v) && decide (v ≤ hi)) = true
  rw [decide_eq_true h1, decide_eq_true h2]
  rfl
def spNeed : Sp := fun vs H Q _ => ∃ v lo hi : Int, vs = [.int v, .int lo, .int hi] ∧ lo ≤ v ∧ v ≤ hi ∧ Q .non H
def spAll : Sp := fun vs H Q _ => ∃ (N k : Nat), vs = [.int (N : Int), .int (k : Int)] ∧ N ≤ 10 ∧ k ≤ N ∧
  ∀ (l : Addr) (H' : Hp), Same H H' → H l = none → TL H' l ((BB.waysL N k).map (·.map V.int)) → Q (.ref l) H'
def spNeedE (c0 : Addr) : Sp := fun vs H Q E => ∃ (v : V) (T : String) (hi : Nat), vs = [v, .int 0, .int (hi : Int)] ∧ hi ≤ 10 ∧ Kn H v T ∧ numB 0 (hi : Int) v = false ∧ ∀ e, H e = none → E (.ref c0) (some e) H
/-- not a number of boxes and one of balls -/
def Wrong (u v : V) : Prop := numB 0 10 u = false ∨ ∃ N : Nat, N ≤ 10 ∧ u = .int (N : Int) ∧ numB 0 (N : Int) v = false
def spAllE (c0 : Addr) : Sp := fun vs H Q E => ∃ (u v : V) (T T' : String), vs = [u, v] ∧ Kn H u T ∧ Kn H v T' ∧ Wrong u v ∧ ∀ e, H e = none → E (.ref c0) (some e) H
def spNone : Sp := fun _ _ _ _ => False
theorem none_at {P : Program} {w : World} {K : PySem.W.Frag} {mg : Str → Option Value} {base : Heap} {f : Addr} {fd : FuncData} {ps : List Str} : FnOk P w K mg base CX0 0 f fd ps spNone := ⟨fun vs H Q E h => h.elim, fun A outer s H args us vs Q E _ _ _ _ h => h.elim⟩
def wholeB : V → Bool
  | .int _ => true
  | _ => false
def spWh : Sp := fun vs H Q _ => ∃ (v : V) (T : String), vs = [v] ∧ Kn H v T ∧ Q (.bl (wholeB v)) H
section
variable {P : Program} {w : World} {K : PySem.W.Frag} {mg : Str → Option Value} {base : Heap} {c0 : Addr} {bm0 : List Value}
set_option maxRecDepth 100000 in
theorem ok_need_number {f : Addr} {fd : FuncData} (F : Fun K "need_number" "need_number" s_need_number f fd) (nb : Nb3 mg) (h_is_number : Has P w K mg base 1 "is_number" ["thing", "least", "greatest"] spNum)  :
    FnOk P w K mg base CX0 2 f fd ["thing", "least", "greatest"] spNeed := by
  have nd := sc_need_number.nd
  refine F.ok (k := 1) sc_need_number (fun vs H Q E h => ?_) (fun cdv A outer s H vs Q E hr h => ?_)
  · obtain ⟨v, lo, hi, rfl, _⟩ := h
    rfl
  obtain ⟨v, lo, hi, rfl, h1, h2, q⟩ := h
  refine ⟨_, (pss_one (ps_if (pt_not (pt_truth (pe_def h_is_number hr (pa_cons (pv 0) (pa_cons (pv 1) (pa_cons (pv 2) pa_nil)))) (fun _ => rfl)))
(pss_one ps_never)
pss_nil)), ?_⟩
  refine ⟨_, rfl, _, rfl, _, rfl, .int v, "int", lo, hi, rfl, .int v, _, rfl, ?_⟩
  rw [num_true h1 h2]
  exact iteF q
set_option maxRecDepth 100000 in
theorem ok_all_rows {f : Addr} {fd : FuncData} (F : Fun K "all_rows" "all_rows" s_all_rows f fd) (nb : Nb3 mg) (h_need_number : Has P w K mg base 2 "need_number" ["thing", "least", "greatest"] spNeed) (h_ways : Has P w K mg base 1 "ways" ["boxes", "balls"] spWays) (c_MOST_BOXES : ∃ u, mg "MOST_BOXES" = some u ∧ RelV (.int 10) u) :
    FnOk P w K mg base CX0 3 f fd ["boxes", "balls"] spAll := by
  have nd := sc_all_rows.nd
  refine F.ok (k := 2) sc_all_rows (fun vs H Q E h => ?_) (fun cdv A outer s H vs Q E hr h => ?_)
  · obtain ⟨N, k, rfl, _⟩ := h
    rfl
  obtain ⟨N, k, rfl, N9, kN, q⟩ := h
  refine ⟨_, (pss_cons (ps_expr (pe_def h_need_number hr (pa_cons (pv 0) (pa_cons pe_int (pa_cons (pe_const c_MOST_BOXES) pa_nil)))))
(pss_cons (ps_expr (pe_def h_need_number hr (pa_cons (pv 1) (pa_cons pe_int (pa_cons (pv 0) pa_nil)))))
(pss_one (ps_ret (pe_def h_ways hr (pa_cons (pv 0) (pa_cons (pv 1) pa_nil))))))), ?_⟩
  refine ⟨_, rfl, (N : Int), 0, 10, rfl, by omega, by omega, ?_⟩
  refine ⟨_, rfl, _, rfl, (k : Int), 0, (N : Int), rfl, by omega, by omega, ?_⟩
  exact ⟨_, rfl, _, rfl, N, k, rfl, N9, by omega, fun l H' s hl tl => q l H' s hl tl⟩
set_option maxRecDepth 100000 in
theorem ok_need_numberE {f : Addr} {fd : FuncData} (F : Fun K "need_number" "need_number" s_need_number f fd) (nb : Nb3 mg) (h_is_number : Has P w K mg base 1 "is_number" ["thing", "least", "greatest"] spNum)   (hm : mg "NoNumber" = some (.ref c0)) (ex : Exc K c0 bm0) :
    FnOk P w K mg base (CXF P w) 2 f fd ["thing", "least", "greatest"] (spNeedE c0) := by
  have nd := sc_need_number.nd
  refine F.okE (k := 1) sc_need_number (fun vs H Q E h => ?_) (fun cdv A outer s H vs Q E hr h => ?_)
  · obtain ⟨v, T, hi, rfl, _⟩ := h
    rfl
  obtain ⟨v, T, hi, rfl, h10, kn, nm, q⟩ := h
  refine ⟨_, (pss_one (ps_if (pt_not (pt_truth (pe_def h_is_number hr (pa_cons (pv 0) (pa_cons (pv 1) (pa_cons (pv 2) pa_nil)))) (fun _ => rfl)))
(pss_one (ps_raise lvs_cx rfl rfl hm ex (pa_cons (pe_fstr (pj_str (pj_int (pv 1) (pj_str (pj_int (pv 2) (pj_str pj_nil)))))) pa_nil)))
pss_nil)), ?_⟩
  refine ⟨_, rfl, _, rfl, _, rfl, v, T, 0, (hi : Int), rfl, kn, _, rfl, ?_⟩
  rw [nm]
  refine iteT ?_
  have cs : hi = 0 ∨ hi = 1 ∨ hi = 2 ∨ hi = 3 ∨ hi = 4 ∨ hi = 5 ∨ hi = 6 ∨ hi = 7 ∨ hi = 8 ∨ hi = 9 ∨ hi = 10 := by omega
  clear nm
  rcases cs with rfl | rfl | rfl | rfl | rfl | rfl | rfl | rfl | rfl | rfl | rfl
  all_goals
    refine ⟨by decide +kernel, _, rfl, 0, rfl, by decide +kernel, by decide +kernel, by decide +kernel, _, rfl, _, rfl, by decide +kernel, by decide +kernel, by decide +kernel, by decide +kernel, by decide +kernel, ?_⟩
    exact q
theorem ok_all_rowsE {f : Addr} {fd : FuncData} (F : Fun K "all_rows" "all_rows" s_all_rows f fd) (nb : Nb3 mg) (h_need_number : Has P w K mg base 2 "need_number" ["thing", "least", "greatest"] spNeed) (hE_need_number : HasE P w K mg base 2 "need_number" ["thing", "least", "greatest"] (spNeedE c0)) (c_MOST_BOXES : ∃ u, mg "MOST_BOXES" = some u ∧ RelV (.int 10) u) :
    FnOk P w K mg base (CXF P w) 3 f fd ["boxes", "balls"] (spAllE c0) := by
  have nd := sc_all_rows.nd
  refine F.okE (k := 2) sc_all_rows (fun vs H Q E h => ?_) (fun cdv A outer s H vs Q E hr h => ?_)
  · obtain ⟨u, v, T, T', rfl, _⟩ := h
    rfl
  obtain ⟨u, v, T, T', rfl, ku, kv, wr, q⟩ := h
  rcases wr with wr | ⟨N, N10, rfl, wr⟩
  · refine ⟨_, (pss_cons (ps_expr (pe_defE hE_need_number lvs_cx hr (pa_cons (pv 0) (pa_cons pe_int (pa_cons (pe_const c_MOST_BOXES) pa_nil))))) pss_never), ?_⟩
    exact ⟨_, rfl, u, T, 10, rfl, by omega, ku, wr, q⟩
  · refine ⟨_, (pss_cons (ps_expr (pe_def h_need_number hr (pa_cons (pv 0) (pa_cons pe_int (pa_cons (pe_const c_MOST_BOXES) pa_nil))))) (pss_cons (ps_expr (pe_defE hE_need_number lvs_cx hr (pa_cons (pv 1) (pa_cons pe_int (pa_cons (pv 0) pa_nil))))) pss_never)), ?_⟩
    refine ⟨_, rfl, (N : Int), 0, 10, rfl, by omega, by omega, ?_⟩
    exact ⟨_, rfl, _, rfl, v, T', N, rfl, N10, kv, wr, q⟩
theorem ok_by_lengthsE {f : Addr} {fd : FuncData} (F : Fun K "by_lengths" "by_lengths" s_by_lengths f fd) (h_counted_by_lengths : Has P w K mg base 0 "counted_by_lengths" ["rows"] spNone) (hE_all_rows : HasE P w K mg base 3 "all_rows" ["boxes", "balls"] (spAllE c0)) :
    FnOk P w K mg base (CXF P w) 4 f fd ["boxes", "balls"] (spAllE c0) := by
  have nd := sc_by_lengths.nd
  refine F.okE (k := 3) sc_by_lengths (fun vs H Q E h => ?_) (fun cdv A outer s H vs Q E hr h => ?_)
  · obtain ⟨u, v, T, T', rfl, _⟩ := h
    rfl
  obtain ⟨u, v, T, T', rfl, ku, kv, wr, q⟩ := h
  refine ⟨_, (pss_one (ps_ret (pe_def h_counted_by_lengths hr (pa_cons (pe_defE hE_all_rows lvs_cx hr (pa_cons (pv 0) (pa_cons (pv 1) pa_nil))) pa_nil)))), ?_⟩
  exact ⟨_, rfl, _, rfl, u, v, T, T', rfl, ku, kv, wr, q⟩
set_option maxRecDepth 100000 in
theorem ok_L_whole {f : Addr} {fd : FuncData} (F : Fun K "_law_whole" "_law_whole" s_L_whole f fd) (nb : Nb3 mg)   :
    FnOk P w K mg base CX0 1 f fd ["_law_thing"] spWh := by
  have nd := sc_L_whole.nd
  refine F.ok (k := 0) sc_L_whole (fun vs H Q E h => ?_) (fun cdv A outer s H vs Q E hr h => ?_)
  · obtain ⟨v, T, rfl, _⟩ := h
    rfl
  obtain ⟨v, T, rfl, hk, q⟩ := h
  refine ⟨_, (pss_one (ps_ret (pe_and (pe_callB call_isi rfl nb.isi boot_isinstance (pa_cons (pv 0) (pa_cons (pe_ty nb.int boot_int) pa_nil))) (pe_one (pe_not (pe_callB call_isi rfl nb.isi boot_isinstance (pa_cons (pv 0) (pa_cons (pe_ty nb.bool boot_bool) pa_nil)))))))), ?_⟩
  refine ⟨_, rfl, _, _, _, rfl, hk, .inl rfl, _, rfl, ?_⟩
  rcases kn_cases hk with ⟨rfl, b, rfl⟩ | ⟨rfl, i, rfl⟩ | ⟨e1, e2, e3⟩
  · exact iteT ⟨_, rfl, _, _, _, rfl, hk, .inr (.inl rfl), _, rfl, q⟩
  · exact iteT ⟨_, rfl, _, _, _, rfl, hk, .inr (.inl rfl), _, rfl, q⟩
  · rw [e2]
    have e : wholeB v = false := by
      cases hk <;> first | rfl | exact absurd e2 (by decide)
    rw [e] at q
    exact iteF q
end
end K82
end
section
/-! All ways, in the order of tuples. -/
namespace BB
open L2 PySem PySem.Spec PySem.W PyProof.Rows
set_option maxRecDepth 100000
set_option Elab.async false
/-- each is before the next -/
def chn : List (List Int) → Bool
  | a :: b :: l => HT.lexLt a b && chn (b :: l)
  | _ => true
theorem chn_pw : ∀ {l : List (List Int)}, chn l = true → l.Pairwise fun x y => HT.lexLt x y = true
  | [], _ => .nil
  | [a], _ => List.pairwise_singleton _ _
  | a :: b :: l, h => by
    obtain ⟨h1, h2⟩ := (Bool.and_eq_true _ _).mp (show (HT.lexLt a b && chn (b :: l)) = true from h)
    have ih := chn_pw h2
    refine List.pairwise_cons.mpr ⟨fun y hy => ?_, ih⟩
    rcases List.mem_cons.mp hy with z | z
    · rw [z]; exact h1
    · exact L2.lx_trans h1 ((List.pairwise_cons.mp ih).1 y z)
theorem ways_chn : ∀ N, N ≤ 10 → ∀ k, k ≤ N → chn (waysL N k) = true := by decide +kernel
theorem ways_is {N k : Nat} (hN : N ≤ 10) (hk : k ≤ N) {l : List (List Int)} (p : l.Perm ((dblL N).filter fun r => decide (r.length = k))) (h : l.Pairwise fun x y => HT.lexLt x y = true) : l = waysL N k :=
  List.Perm.eq_of_pairwise (fun a b _ _ h1 h2 => by
    have := L2.lx_trans h1 h2
    rw [L2.lx_irr] at this
    cases this) h (chn_pw (ways_chn N hN k hk)) (p.trans (dbl_ways N hN k hk).symm)
theorem one_empty : ∀ {l : List (List Int)}, l.Nodup → (∀ r ∈ l, r = []) → ¬ 2 ≤ l.length
  | [], _, _, h => by simp at h
  | [_], _, _, h => by simp at h
  | x :: y :: _, nd, e, _ => (List.pairwise_cons.mp nd).1 y (by simp) (by rw [e x (by simp), e y (by simp)])
theorem dbl_nodup : ∀ N, (dblL N).Nodup ∧ ∀ r ∈ dblL N, ∀ x ∈ r, x < (N : Int)
  | 0 => ⟨by decide, by decide⟩
  | n + 1 => by
    obtain ⟨h1, h2⟩ := dbl_nodup n
    unfold dblL
    refine ⟨List.nodup_append.mpr ⟨h1, ?_, fun a ha b hb => ?_⟩, fun r hr x hx => ?_⟩
    · exact List.pairwise_map.mpr (h1.imp fun {a b} ne e => ne (List.append_cancel_right e))
    · obtain ⟨c, hc, rfl⟩ := List.mem_map.mp hb
      intro e
      have := h2 a ha (n : Int) (by rw [e]; simp)
      omega
    · rcases List.mem_append.mp hr with z | z
      · have := h2 r z x hx
        omega
      · obtain ⟨c, hc, rfl⟩ := List.mem_map.mp z
        rcases List.mem_append.mp hx with y | y
        · have := h2 c hc x y
          omega
        · rw [List.mem_singleton] at y
          omega
end BB
end
section
namespace K82
open PySem PySem.Spec PyProof.Rows L2
set_option maxHeartbeats 4000000
set_option maxRecDepth 100000
set_option Elab.async false
set_option linter.unusedVariables false
theorem tl_app {H : Hp} {L : Addr} {ys zs : List V} {A B : List (List V)} (hL : H L = some (.lst (ys ++ zs))) (la : ys.length = A.length) (lb : zs.length = B.length) (ha : ∀ (j : Nat) (y : V), ys[j]? = some y → ∃ p, y = .ref p ∧ H p = some (.tup (A.getD j [])))
    (hb : ∀ (j : Nat) (y : V), zs[j]? = some y → ∃ p, y = .ref p ∧ H p = some (.tup (B.getD j []))) : TL H L (A ++ B) := by
  refine ⟨_, hL, by rw [List.length_append, List.length_append, la, lb], fun j y e => ?_⟩
  by_cases c : j < ys.length
  · rw [List.getElem?_append_left c] at e
    obtain ⟨p, e1, e2⟩ := ha j y e
    refine ⟨p, e1, ?_⟩
    rw [e2, List.getD_eq_getElem?_getD, List.getD_eq_getElem?_getD, List.getElem?_append_left (by omega)]
  · rw [List.getElem?_append_right (by omega)] at e
    obtain ⟨p, e1, e2⟩ := hb _ y e
    refine ⟨p, e1, ?_⟩
    rw [e2, List.getD_eq_getElem?_getD, List.getD_eq_getElem?_getD, List.getElem?_append_right (by omega), la]
def spDue : Sp := fun vs H Q _ => ∃ (N k : Nat), vs = [.int (N : Int), .int (k : Int)] ∧ N ≤ 10 ∧ k ≤ N ∧
  ∀ (l : Addr) (H' : Hp), Same H H' → TL H' l ((BB.waysL N k).map (·.map V.int)) → Q (.ref l) H'
section
variable {P : Program} {w : World} {K : PySem.W.Frag} {mg : Str → Option Value} {base : Heap}
set_option maxRecDepth 100000 in
theorem ok_L_due {f : Addr} {fd : FuncData} (F : Fun K "_law_due" "_law_due" s_L_due f fd) (nb : Nb3 mg)   :
    FnOk P w K mg base CX0 4 f fd ["_law_boxes", "_law_balls"] spDue := by
  have nd := sc_L_due.nd
  refine F.ok (k := 3) sc_L_due (fun vs H Q E h => ?_) (fun cdv A outer s H vs Q E hr h => ?_)
  · obtain ⟨N, k, rfl, _⟩ := h
    rfl
  obtain ⟨N, k, rfl, N9, kN, q⟩ := h
  refine ⟨_, (pss_cons (ps_set (i := 2) nd rfl (Or.inl rfl) (pe_lst (pa_cons (pe_tup pa_nil) pa_nil)))
(pss_cons (ps_for PassesOwn.never rfl (pi_range1 rfl nb.range (pa_cons (pv 0) pa_nil)) (pg_name (i := 3) nd rfl (Or.inr rfl))
(pss_one (ps_set (i := 2) nd rfl (Or.inl rfl) (pe_op op_cat (pv 2) (pe_comp1 (sc := defScope s_L_due) (N0 := ["_law_boxes", "_law_balls", "_law_rows", "_law_box"]) (N := ["_law_box"]) (js := [3]) rfl rfl rfl (by exact ⟨rfl, by decide +kernel, by decide +kernel, by decide +kernel, rfl, rfl, by decide, by decide +kernel, by decide +kernel⟩) rfl
(pi_list (pv 2))
(fun _ _ _ _ _ => by exact pts_nil)
(fun _ _ _ _ _ => by exact (pe_op (op_catW K rfl) (pv 0) (pe_tup (pa_cons (pv 1) pa_nil)))))))))
(pss_one (ps_ret (pe_callB call_sortT rfl nb.sorted boot_sorted (pa_cons (pe_comp1 (sc := defScope s_L_due) (N0 := ["_law_boxes", "_law_balls", "_law_rows", "_law_box"]) (N := ["_law_balls"]) (js := [1]) rfl rfl rfl (by exact ⟨rfl, by decide +kernel, by decide +kernel, by decide +kernel, rfl, rfl, by decide, by decide +kernel, by decide +kernel⟩) rfl
(pi_list (pv 2))
(fun _ _ _ _ _ => by exact (pts_one (pt_cmpR op_eq (pe_callB (call_lenK K rfl) rfl nb.len PySem.boot_len (pa_cons (pv 0) pa_nil)) (pv 1) (nomark _))))
(fun _ _ _ _ _ => by exact (pv 0))) pa_nil)))))), ?_⟩
  refine ⟨(by show 0 ≤ sizeLine; decide), fun e0 he0 => ⟨(by show 1 ≤ sizeLine; decide), fun l0 hl0 => ?_⟩⟩
  have t0 : TL (upd (upd H e0 (.tup [])) l0 (.lst [.ref e0])) l0 ((BB.dblL 0).map (·.map V.int)) := by
    refine ⟨_, upd_same, rfl, fun j y e => ?_⟩
    cases j with
    | zero =>
      cases e
      exact ⟨e0, rfl, same_new hl0 _ _ _ upd_same⟩
    | succ j => cases e
  have s1 := (same_new he0 (.tup [])).trans (same_new hl0 (.lst [.ref e0]))
  generalize upd (upd H e0 (.tup [])) l0 (.lst [.ref e0]) = H1 at s1 t0 ⊢
  refine ⟨_, rfl, _, rfl, by omega, by omega, ?_⟩
  refine for_range (fun i σ H' => ∃ (l : Addr) (o3 : Option V), σ = [some (.int (N : Int)), some (.int (k : Int)), some (.ref l), o3] ∧ Same H H' ∧ TL H' l ((BB.dblL i).map (·.map V.int))) ⟨l0, _, rfl, s1, t0⟩ (fun i σ H' hi hp => ?_) (fun σ H' hp => ?_)
  · obtain ⟨l, o3, rfl, sm, ys, hl, hlen, hy⟩ := hp
    rw [List.length_map] at hlen
    have dl := BB.dbl_len i
    have iN : i < N := by omega
    have p2 : 2 ^ i ≤ 2 ^ 10 := Nat.pow_le_pow_right (by decide) (by omega)
    refine ⟨_, rfl, _, rfl, l, rfl, ⟨_, SqL.of hl⟩, fun D hD => ?_⟩
    refine comp_tups ys.length (by rw [sizeLine_eq]; omega) (fun j => ((BB.dblL i).getD j []).map V.int ++ [.int (i : Int)]) (fun σ => ∃ o1, σ = [o1, some (.int (0 + (i : Int)))]) _ hD ⟨_, rfl⟩ (items_lst hl) (fun j z σ' H2 hj s2 im hσ R hR => ?_) (fun H3 zs s3 hD3 hl3 hzs => ?_)
    · obtain ⟨o1, rfl⟩ := hσ
      obtain ⟨p, rfl, hp⟩ := hy j z im
      have e1 : ((BB.dblL i).map (·.map V.int)).getD j [] = ((BB.dblL i).getD j []).map V.int := by
        rw [List.getD_eq_getElem?_getD, List.getD_eq_getElem?_getD, List.getElem?_map]
        cases (BB.dblL i)[j]? <;> rfl
      rw [e1] at hp
      have bl : ((BB.dblL i).getD j []).length ≤ 10 := by
        rw [List.getD_eq_getElem?_getD]
        cases e2 : (BB.dblL i)[j]? with
        | none => exact Nat.zero_le _
        | some r => have := (BB.dbl_way (List.mem_of_getElem? e2)).2.1; show r.length ≤ 10; omega
      refine ⟨_, rfl, _, rfl, (by show 1 ≤ sizeLine; decide), fun b hb => ?_⟩
      have s4 := same_new hb (.tup [.int (0 + (i : Int))])
      refine ⟨p, b, _, _, rfl, rfl, s4 _ _ (s2 _ _ hp), upd_same, by rw [List.length_map, sizeLine_eq, List.length_singleton]; omega, fun p2 H5 s5 h5 => hR _ _ _ ⟨_, rfl⟩ (s4.trans s5) ?_⟩
      rw [h5, Int.zero_add]
    · refine ⟨l, D, _, _, rfl, rfl, s3 _ _ hl, hD3, by rw [sizeLine_eq]; omega, fun L hL => ?_⟩
      have s4 := same_new hL (.lst (ys ++ zs))
      refine ⟨L, _, rfl, (sm.trans s3).trans s4, ?_⟩
      have e2 : (BB.dblL (i + 1)).map (·.map V.int) = (BB.dblL i).map (·.map V.int) ++ ((BB.dblL i).map fun r => r ++ [(i : Int)]).map (·.map V.int) := by
        show (BB.dblL i ++ _).map _ = _
        rw [List.map_append]
      rw [e2]
      refine tl_app upd_same (by rw [List.length_map]; exact hlen) (by rw [List.length_map, List.length_map, hl3]; exact hlen) (fun j y e => ?_) (fun j y e => ?_)
      · obtain ⟨p, x1, x2⟩ := hy j y e
        exact ⟨p, x1, s4 _ _ (s3 _ _ x2)⟩
      · obtain ⟨p, x1, x2⟩ := hzs j y e
        refine ⟨p, x1, ?_⟩
        have jl : j < (BB.dblL i).length := by have := (List.getElem?_eq_some_iff.mp e).1; omega
        rw [s4 _ _ x2, List.getD_eq_getElem?_getD, List.getD_eq_getElem?_getD, List.getElem?_map, List.getElem?_map, List.getElem?_eq_getElem jl]
        show some (HO.tup ((BB.dblL i)[j].map V.int ++ [V.int (i : Int)])) = some (HO.tup (((BB.dblL i)[j] ++ [(i : Int)]).map V.int))
        rw [List.map_append]
        rfl
  · obtain ⟨l, o3, rfl, sm, t1⟩ := hp
    rw [Int.toNat_natCast] at t1
    obtain ⟨ys, hl, hlen, hy⟩ := t1
    rw [List.length_map] at hlen
    have dl := BB.dbl_len N
    have p2 : 2 ^ N ≤ 2 ^ 10 := Nat.pow_le_pow_right (by decide) (by omega)
    have at_ : ∀ j, j < (BB.dblL N).length → ∃ p, ys[j]? = some (.ref p) ∧ H' p = some (.tup (((BB.dblL N).getD j []).map V.int)) := fun j hj => by
      obtain ⟨p, e1, e2⟩ := hy j _ (List.getElem?_eq_getElem (by omega : j < ys.length))
      refine ⟨p, by rw [List.getElem?_eq_getElem (by omega : j < ys.length), e1], ?_⟩
      rw [e2, List.getD_eq_getElem?_getD, List.getD_eq_getElem?_getD, List.getElem?_map, List.getElem?_eq_getElem hj]
      rfl
    refine ⟨_, rfl, l, rfl, ⟨_, SqL.of hl⟩, fun D hD => ?_⟩
    refine comp_sel ys.length (by rw [sizeLine_eq]; omega) (fun j => decide (((BB.dblL N).getD j []).length = k)) (fun j => ys.getD j .non) (fun σ => ∃ o1, σ = [o1, some (.int (k : Int))]) _ hD ⟨_, rfl⟩ (items_lst hl) (fun j x σ' H5 hj s5 im hσ R S hR hS => ?_) (fun H4 s4 hD4 => ?_)
    · obtain ⟨o1, rfl⟩ := hσ
      obtain ⟨p, e1, e2⟩ := at_ j (by omega)
      rw [e1] at im
      cases im
      have e3 : ys.getD j .non = .ref p := by rw [List.getD_eq_getElem?_getD, e1]; rfl
      refine ⟨_, rfl, p, _, rfl, .inr (SqT.of (s5 _ _ e2)), _, rfl, rfl, _, rfl, ?_⟩
      rw [List.length_map]
      by_cases c : ((BB.dblL N).getD j []).length = k
      · rw [decide_eq_true (by rw [c])]
        exact iteT ⟨_, rfl, hR (decide_eq_true c) _ _ _ ⟨_, rfl⟩ (Same.refl _) e3.symm⟩
      · rw [decide_eq_false (fun z => c (by injection z with z; omega))]
        exact iteF (hS (decide_eq_false c) _ _ ⟨_, rfl⟩ (Same.refl _))
    · have fl : ((List.range ys.length).filter fun j => decide (((BB.dblL N).getD j []).length = k)).map (fun j => (BB.dblL N).getD j []) = (BB.dblL N).filter fun r => decide (r.length = k) := by
        have e : BB.dblL N = (List.range ys.length).map fun j => (BB.dblL N).getD j [] := by
          apply List.ext_getElem?
          intro i
          rw [List.getElem?_map]
          by_cases z : i < ys.length
          · rw [List.getElem?_range z, List.getElem?_eq_getElem (by omega)]
            show _ = some ((BB.dblL N).getD i [])
            rw [List.getD_eq_getElem?_getD, List.getElem?_eq_getElem (by omega)]
            rfl
          · rw [List.getElem?_eq_none (by omega), List.getElem?_eq_none (by simpa using z)]
            rfl
        conv => rhs; rw [e]
        rw [List.filter_map]
        rfl
      have rw4 : Rws H4 (((List.range ys.length).filter fun j => decide (((BB.dblL N).getD j []).length = k)).map (fun j => ys.getD j .non)) ((BB.dblL N).filter fun r => decide (r.length = k)) := by
        rw [← fl]
        refine ⟨by rw [List.length_map, List.length_map], fun j b e => ?_⟩
        rw [List.getElem?_map] at e ⊢
        cases ej : ((List.range ys.length).filter fun j => decide (((BB.dblL N).getD j []).length = k))[j]? with
        | none => rw [ej] at e; cases e
        | some i =>
          rw [ej] at e
          cases e
          have hi := List.mem_range.mp (List.mem_filter.mp (List.mem_of_getElem? ej)).1
          obtain ⟨p, e1, e2⟩ := at_ i (by omega)
          exact ⟨p, congrArg some (by show ys.getD i V.non = .ref p; rw [List.getD_eq_getElem?_getD, e1]; rfl), s4 _ _ e2⟩
      have nl : ((BB.dblL N).filter fun r => decide (r.length = k)).length ≤ (BB.dblL N).length := List.length_filter_le _ _
      refine ⟨D, _, _, rfl, hD4, rw4, List.Pairwise.filter _ (BB.dbl_nodup N).1, fun two b hb => ?_, by omega, fun bl' zs l' pm pw rz hl' => ?_⟩
      · obtain ⟨b1, b2⟩ := List.mem_filter.mp hb
        have b3 : b.length = k := of_decide_eq_true b2
        intro e
        subst e
        have k0 : k = 0 := b3.symm
        subst k0
        have e1 : ∀ r ∈ (BB.dblL N).filter (fun r => decide (r.length = 0)), r = [] := fun r hr => List.length_eq_zero_iff.mp (of_decide_eq_true (List.mem_filter.mp hr).2)
        have nd := List.Pairwise.filter (fun r => decide (r.length = 0)) (BB.dbl_nodup N).1
        exact BB.one_empty nd e1 two
      · obtain rfl := BB.ways_is N9 kN pm pw
        have s5 := same_new hl' (.lst zs)
        refine q l' _ ((sm.trans s4).trans s5) ⟨zs, upd_same, by rw [List.length_map]; exact rz.1, fun j y e => ?_⟩
        have jl : j < (BB.waysL N k).length := by rw [← rz.1]; exact (List.getElem?_eq_some_iff.mp e).1
        obtain ⟨p, e1, e2⟩ := rz.2 j _ (List.getElem?_eq_getElem jl)
        rw [e] at e1
        refine ⟨p, Option.some.inj e1, ?_⟩
        rw [s5 _ _ e2, List.getD_eq_getElem?_getD, List.getElem?_map, List.getElem?_eq_getElem jl]
        rfl
end
end K82
end
section
namespace K82
open PySem PySem.Spec PyProof.Rows L2
set_option maxHeartbeats 4000000
set_option maxRecDepth 100000
set_option Elab.async false
set_option linter.unusedVariables false
theorem hu4 {k : Nat} {A : Around} (r : Room k A) : A.units + 1 + 1 < cLine := by have := r.un; omega
theorem same_keep {H H' : Hp} {r : Addr} {o : HO} (hr : H r = none) (k : Keep r (upd H r o) H') : Same H H' := fun c u h => k c u (ne_of_none h hr) (same_new hr o c u h)
theorem Keep.of {a : Addr} {H H' : Hp} (s : Same H H') : Keep a H H' := fun c o _ h => s c o h
/-- all but the table -/
def lessT (H : Hp) (T : Addr) : Hp := fun b => if b = T then none else H b
theorem lessT_ne {H : Hp} {T b : Addr} (n : b ≠ T) : lessT H T b = H b := if_neg n
theorem lessT_some {H : Hp} {T b : Addr} {u : HO} (e : lessT H T b = some u) : b ≠ T ∧ H b = some u := by
  by_cases z : b = T
  · rw [z] at e; unfold lessT at e; rw [if_pos rfl] at e; cases e
  · exact ⟨z, (lessT_ne z).symm.trans e⟩
theorem seq_lessT {K : PySem.W.Frag} {H : Hp} {T a : Addr} {xs : List V} {ps : Array Value} (hT : H T = some (.tbl ps)) (h : SqL K H a xs) : SqL K (lessT H T) a xs := by
  rcases h with (h | ⟨o, h⟩) | h
  · exact .inl (.inl ((lessT_ne (fun z => by rw [z, hT] at h; cases h)).trans h))
  · exact .inl (.inr ⟨o, (lessT_ne (fun z => by rw [z, hT] at h; cases h)).trans h⟩)
  · exact .inr h
theorem tab_keep {q : Str} {H H' : Hp} {T r : Addr} {xs : List V} (t : Tab q H T) (hr : H r = some (.lst xs)) (k : Keep r H H') : Tab q H' T := by
  obtain ⟨l, e, h⟩ := t
  refine ⟨l, k _ _ (fun z => by rw [z, hr] at e; cases e) e, fun x hx => ?_⟩
  obtain ⟨oc, vs, t, a, b⟩ := h x hx
  exact ⟨oc, vs, t, k _ _ (fun z => by rw [z, hr] at a; cases a) a, b⟩
abbrev LQ : Str := (("law" : Str) ++ ".<locals>.") ++ "<lambda>"
def spLaw (K : PySem.W.Frag) (T : Addr) : Sp := fun vs H Q _ => ∃ (a : Addr) (ns : List Int), vs = [.ref a] ∧ SqL K H a (ns.map V.int) ∧ ns.length ≤ 63 ∧ H T = some (.tbl #[]) ∧ ∀ H', Q (.bl true) H'
theorem at_mem {xs : List V} {k : Int} (h0 : 0 ≤ k) (h1 : k < (xs.length : Int)) : ∃ u, atI xs k = some u ∧ u ∈ xs ∧ xs[k.toNat]? = some u := by
  have hk : k.toNat < xs.length := by omega
  have ek : ((k.toNat : Nat) : Int) = k := by omega
  have q : atI xs ((k.toNat : Nat) : Int) = some xs[k.toNat] := atI_nat (List.getElem?_eq_getElem hk)
  rw [ek] at q
  exact ⟨xs[k.toNat], q, List.getElem_mem hk, List.getElem?_eq_getElem hk⟩
theorem Keep.trans {a : Addr} {H H1 H2 : Hp} (k : Keep a H H1) (k' : Keep a H1 H2) : Keep a H H2 := fun c o n h => k' c o n (k c o n h)
theorem Keep.same {a : Addr} {H H1 H2 : Hp} (k : Keep a H H1) (s : Same H1 H2) : Keep a H H2 := fun c o n h => s c o (k c o n h)
theorem keep_upd (a : Addr) (H : Hp) (o : HO) : Keep a H (upd H a o) := fun c u n h => by rw [upd_ne n]; exact h
theorem StAt.same {H H' : Hp} {a : Addr} {x : Int} {b : Bool} (h : StAt H a x b) (s : Same H H') : StAt H' a x b := ⟨s _ _ h.1, h.2⟩
theorem StAt.upd {H : Hp} {a : Addr} {x' : Int} {b : Bool} (d : Dok x' b) : StAt (L2.upd H a (.lst [.int x', .bl b])) a x' b := ⟨upd_same, d⟩
theorem flat_sm {H : Hp} {n : Nat} {i : Int} : Sm H n (.int i) (.int i) := by
  cases n with
  | zero => exact ⟨rfl, .inl ⟨i, rfl⟩⟩
  | succ n => exact .inl ⟨rfl, .inl ⟨i, rfl⟩⟩
/-- the j-th of two lists that hold the same rows -/
theorem tl_two {H : Hp} {a b : Addr} {bl : List (List Int)} (h1 : TL H a (bl.map (·.map V.int))) (h2 : TL H b (bl.map (·.map V.int))) : ∃ xs ys, H a = some (.lst xs) ∧ H b = some (.lst ys) ∧ xs.length = bl.length ∧ ys.length = bl.length ∧
    ∀ (j : Nat) (u v : V), xs[j]? = some u → ys[j]? = some v → ∃ (p p' : Addr) (r : List Int), r ∈ bl ∧ u = .ref p ∧ v = .ref p' ∧ H p = some (.tup (r.map V.int)) ∧ H p' = some (.tup (r.map V.int)) := by
  obtain ⟨xs, x1, x2, x3⟩ := h1
  obtain ⟨ys, y1, y2, y3⟩ := h2
  rw [List.length_map] at x2 y2
  refine ⟨xs, ys, x1, y1, x2, y2, fun j u v e1 e2 => ?_⟩
  have jl : j < bl.length := by rw [← x2]; exact (List.getElem?_eq_some_iff.mp e1).1
  obtain ⟨p, z1, z2⟩ := x3 j u e1
  obtain ⟨p', w1, w2⟩ := y3 j v e2
  have eg : (bl.map (·.map V.int)).getD j [] = bl[j].map V.int := by
    rw [List.getD_eq_getElem?_getD, List.getElem?_map, List.getElem?_eq_getElem jl]
    rfl
  rw [eg] at z2 w2
  exact ⟨p, p', bl[j], List.getElem_mem _, z1, w1, z2, w2⟩
theorem tl_de {H : Hp} {a b : Addr} {bl : List (List Int)} (h1 : TL H a (bl.map (·.map V.int))) (h2 : TL H b (bl.map (·.map V.int))) : ∃ xs ys, H a = some (.lst xs) ∧ H b = some (.lst ys) ∧ xs.length = ys.length ∧ ∀ (j : Nat) (u v : V), xs[j]? = some u → ys[j]? = some v → De H 1 u v := by
  obtain ⟨xs, ys, e1, e2, e3, e4, e5⟩ := tl_two h1 h2
  refine ⟨xs, ys, e1, e2, by omega, fun j u v f1 f2 => ?_⟩
  obtain ⟨p, p', r, _, rfl, rfl, g1, g2⟩ := e5 j u v f1 f2
  refine .inr ⟨p, p', _, _, rfl, rfl, g1, g2, rfl, fun i u v h1 h2 => ?_⟩
  rw [h1] at h2
  cases h2
  obtain ⟨z, _, rfl⟩ := List.mem_map.mp (List.mem_of_getElem? h1)
  exact ⟨z, rfl, rfl⟩
theorem tl_sm {H : Hp} {a b : Addr} {bl : List (List Int)} (h1 : TL H a (bl.map (·.map V.int))) (h2 : TL H b (bl.map (·.map V.int))) (lb : bl.length ≤ 1000) (lr : ∀ r ∈ bl, r.length ≤ 1000) : Sm H 2 (.ref a) (.ref b) := by
  obtain ⟨xs, ys, e1, e2, e3, e4, e5⟩ := tl_two h1 h2
  refine .inr ⟨a, b, xs, ys, rfl, rfl, .inr ⟨e1, e2⟩, by omega, by omega, fun j u v f1 f2 => ?_⟩
  obtain ⟨p, p', r, hr, rfl, rfl, g1, g2⟩ := e5 j u v f1 f2
  refine .inr ⟨p, p', _, _, rfl, rfl, .inl ⟨g1, g2⟩, rfl, by rw [List.length_map]; exact lr r hr, fun i u v h1 h2 => ?_⟩
  rw [h1] at h2
  cases h2
  obtain ⟨z, _, rfl⟩ := List.mem_map.mp (List.mem_of_getElem? h1)
  exact flat_sm
theorem tl_one {H : Hp} {l p : Addr} {r : List Int} (hl : H l = some (.lst [.ref p])) (hp : H p = some (.tup (r.map V.int))) : TL H l ([r].map (·.map V.int)) := ⟨_, hl, rfl, fun j y e => by
  match j, e with
  | 0, e => cases e; exact ⟨p, rfl, hp⟩⟩
theorem tl_duo {H : Hp} {l p p' : Addr} {r r' : List Int} (hl : H l = some (.lst [.ref p, .ref p'])) (hp : H p = some (.tup (r.map V.int))) (hp' : H p' = some (.tup (r'.map V.int))) : TL H l ([r, r'].map (·.map V.int)) := ⟨_, hl, rfl, fun j y e => by
  match j, e with
  | 0, e => cases e; exact ⟨p, rfl, hp⟩
  | 1, e => cases e; exact ⟨p', rfl, hp'⟩⟩
theorem num_no {lo hi i : Int} (h : ¬ (lo ≤ i ∧ i ≤ hi)) : numB lo hi (.int i) = false := by
  show (decide (lo ≤ i) && decide (i ≤ hi)) = false
  by_cases c : lo ≤ i
  · rw [decide_eq_false (show ¬ i ≤ hi from fun z => h ⟨c, z⟩), Bool.and_false]
  · rw [decide_eq_false c, Bool.false_and]
theorem right_rd {σ : L2.St} {H : Hp} {Q : VK} {u v : V} {T T' : String} (h9 : σ[9]? = some (some u)) (h10 : σ[10]? = some (some v)) (ku : Kn H u T) (kv : Kn H v T') (q1 : Q (.bl true) H) (q2 : Wrong u v → Q (.bl false) H) :
    (tAndV (tCall spWh [] E0 (tCons (tVar 9) tNil)) (tAndV (tChain (rI0 fun i j => V.bl (decide (i ≤ j))) (rI0 fun i j => V.bl (decide (i ≤ j))) (tC (V.int 0)) (tVar 9) (tC (V.int 10)))
      (tAndV (tCall spWh [] E0 (tCons (tVar 10) tNil)) (tChain (rI0 fun i j => V.bl (decide (i ≤ j))) (rI0 fun i j => V.bl (decide (i ≤ j))) (tC (V.int 0)) (tVar 10) (tVar 9))))) σ H Q := by
  have ww : ∀ {x : V} {T : String}, Kn H x T → (wholeB x = true ∧ ∃ i, x = .int i) ∨ (wholeB x = false ∧ ∀ lo hi, numB lo hi x = false) := fun {x T} k => by
    cases x with
    | int i => exact .inl ⟨rfl, i, rfl⟩
    | _ => exact .inr ⟨rfl, fun _ _ => rfl⟩
  refine ⟨_, h9, u, T, rfl, ku, _, rfl, ?_⟩
  rcases ww ku with ⟨e1, i, rfl⟩ | ⟨e1, e2⟩
  · rw [e1]
    refine iteT ⟨_, h9, 0, i, rfl, rfl, _, rfl, ?_⟩
    by_cases c1 : 0 ≤ i
    · rw [decide_eq_true c1]
      refine iteT ⟨i, 10, rfl, rfl, _, rfl, ?_⟩
      by_cases c2 : i ≤ 10
      · rw [decide_eq_true c2]
        refine iteT ⟨_, h10, v, T', rfl, kv, _, rfl, ?_⟩
        obtain ⟨N, rfl⟩ := Int.eq_ofNat_of_zero_le c1
        rcases ww kv with ⟨e3, j, rfl⟩ | ⟨e3, e4⟩
        · rw [e3]
          refine iteT ⟨_, h10, 0, j, rfl, rfl, _, rfl, ?_⟩
          by_cases c3 : 0 ≤ j
          · rw [decide_eq_true c3]
            refine iteT ⟨_, h9, j, (N : Int), rfl, rfl, ?_⟩
            show Q (.bl (decide (j ≤ (N : Int)))) H
            by_cases c4 : j ≤ (N : Int)
            · rw [decide_eq_true c4]; exact q1
            · rw [decide_eq_false c4]
              exact q2 (.inr ⟨N, by omega, rfl, num_no fun z => c4 z.2⟩)
          · rw [decide_eq_false c3]
            exact iteF (q2 (.inr ⟨N, by omega, rfl, num_no fun z => c3 z.1⟩))
        · rw [e3]
          exact iteF (q2 (.inr ⟨N, by omega, rfl, e4 _ _⟩))
      · rw [decide_eq_false c2]
        exact iteF (q2 (.inl (num_no fun z => c2 z.2)))
    · rw [decide_eq_false c1]
      exact iteF ⟨_, rfl, iteF (q2 (.inl (num_no fun z => c1 z.1)))⟩
  · rw [e1]
    exact iteF (q2 (.inl (e2 _ _)))
theorem lessT_in {H : Hp} {T b : Addr} {o : HO} (n : b ≠ T) (e : H b = some o) : lessT H T b = some o := by
  unfold lessT
  rw [if_neg n]
  exact e
section
variable {P : Program} {w : World} {K : PySem.W.Frag} {mg : Str → Option Value} {base : Heap} {b c0 c1 c2 c3 c4 c T : Addr} {bm0 : List Value}
set_option maxRecDepth 100000 in
theorem ok_law {f : Addr} {fd : FuncData} (F : Fun K "law" "law" s_law f fd) (nb : Nb4 mg) (h_L_state : Has P w K mg base 2 "_law_state" ["_law_script", "_law_k"] (spState K)) (h_L_take : Has P w K mg base 1 "_law_take" ["_law_state_here", "_law_many"] (spTake K)) (h_L_due : Has P w K mg base 4 "_law_due" ["_law_boxes", "_law_balls"] spDue) (h_L_same : Has P w K mg base 3 "_law_same" ["_law_found", "_law_due_here"] (spSame 3)) (h_all_rows : Has P w K mg base 3 "all_rows" ["boxes", "balls"] spAll) (h_L_whole : Has P w K mg base 1 "_law_whole" ["_law_thing"] spWh)  (h_ref : HasR P w K mg 6 5 "_law_refused" "_law_call" Rn (Ec K b c0 c1 c2 c3 c4)) (hE_all_rows : ∀ base, HasE P w K mg base 3 "all_rows" ["boxes", "balls"] (spAllE c0)) (hE_by_lengths : ∀ base, HasE P w K mg base 4 "by_lengths" ["boxes", "balls"] (spAllE c0))
    (hcd : fd.code = .ref c) (C : PySem.W.CodeHd base c T) (Bl : BltAt mg base) (e0 : ExcF K c0 bm0) (hin : (Value.ref c0 :: bm0).contains (.ref b) = true) (kd : Kind5 K c0 c1 c2 c3 c4 c0 0) :
    FnOk P w K mg base CX0 7 f fd ["_law_script"] (spLaw K T) := by
  have nd := sc_law.nd
  refine F.okC (k := 6) sc_law (fun vs H Q E h => ?_) (fun A outer s H vs Q E hr h => ?_)
  · obtain ⟨a, ns, rfl, _⟩ := h
    rfl
  obtain ⟨a, ns, rfl, hS, h63, hT, q⟩ := h
  refine ⟨_, (@pss_cons _ _ _ _ _ (ps_if (PW.pt (pw_or (pt_cmpR (op_neD (n := 1) (hu4 hr)) (pe_def h_all_rows hr (pa_cons pe_int (pa_cons pe_int pa_nil))) (pe_lst (pa_cons (pe_tup pa_nil) pa_nil)) (nomark _)) (pw_or (pt_cmpR (op_neD (n := 1) (hu4 hr)) (pe_def h_all_rows hr (pa_cons pe_int (pa_cons pe_int pa_nil))) (pe_lst (pa_cons (pe_tup (pa_cons pe_int pa_nil)) (pa_cons (pe_tup (pa_cons pe_int pa_nil)) pa_nil))) (nomark _)) (pw_or1 (pt_cmpR (op_neD (n := 1) (hu4 hr)) (pe_def h_all_rows hr (pa_cons pe_int (pa_cons pe_int pa_nil))) (pe_lst (pa_cons (pe_tup (pa_cons pe_int (pa_cons pe_int (pa_cons pe_int pa_nil)))) pa_nil)) (nomark _))))))
(pss_one (ps_ret pe_bl))
pss_nil) (@pss_cons _ _ _ _ _ (ps_for PassesOwn.never rfl (pi_range1 rfl nb.range (pa_cons (pe_callB (call_max2 rfl) rfl nb.max boot_max (pa_cons pe_int (pa_cons (pe_callB (call_min2 rfl) rfl nb.min boot_min (pa_cons (pe_callB call_len_seq rfl nb.len PySem.boot_len (pa_cons (pv 0) pa_nil)) (pa_cons pe_int pa_nil))) pa_nil))) pa_nil)) (pg_name (i := 1) nd rfl (Or.inl rfl))
(pss_cons (ps_set (i := 2) nd rfl (Or.inl rfl) (pe_def h_L_state hr (pa_cons (pv 0) (pa_cons (pv 1) pa_nil))))
(pss_cons (ps_set (i := 3) nd rfl (Or.inl rfl) (pe_def h_L_take hr (pa_cons (pv 2) (pa_cons pe_int pa_nil))))
(pss_cons (ps_set (i := 4) nd rfl (Or.inl rfl) (pe_def h_L_take hr (pa_cons (pv 2) (pa_cons (pe_op op_add (pv 3) pe_int) pa_nil))))
(pss_cons (ps_set (i := 5) nd rfl (Or.inl rfl) (pe_def h_L_due hr (pa_cons (pv 3) (pa_cons (pv 4) pa_nil))))
(pss_one (ps_for PassesOwn.never rfl (pi_range1 rfl nb.range (pa_cons pe_int pa_nil)) (pg_name (i := 6) nd rfl (Or.inl rfl))
(pss_cons (ps_set (i := 7) nd rfl (Or.inl rfl) (pe_def h_all_rows hr (pa_cons (pv 3) (pa_cons (pv 4) pa_nil))))
(pss_cons (ps_if (pt_not (pt_truth (pe_def h_L_same hr (pa_cons (pv 7) (pa_cons (pv 5) pa_nil))) (fun _ => rfl)))
(pss_one (ps_ret pe_bl))
pss_nil)
(pss_one (ps_expr (pe_bm PySem.F.plainAttrs_list PySem.F.slot_list_append PySem.F.type_list_append mt_append (pv 7) (pa_cons (pe_tup pa_nil) pa_nil))))))))))))) (@pss_cons _ _ _ _ _ (@ps_for _ _ _ _ _ _ _ _ PassesOwn.never rfl (pi_range1 rfl nb.range (pa_cons (pe_callB (call_max2 rfl) rfl nb.max boot_max (pa_cons pe_int (pa_cons (pe_callB (call_min2 rfl) rfl nb.min boot_min (pa_cons (pe_callB call_len_seq rfl nb.len PySem.boot_len (pa_cons (pv 0) pa_nil)) (pa_cons pe_int pa_nil))) pa_nil))) pa_nil)) (pg_name (i := 1) nd rfl (Or.inl rfl)) (@pss_cons _ _ _ _ _ (ps_set (i := 2) nd rfl (Or.inl rfl) (pe_def h_L_state hr (pa_cons (pv 0) (pa_cons (pv 1) pa_nil)))) (@pss_cons _ _ _ _ _ (ps_set (i := 3) nd rfl (Or.inl rfl) (pe_def h_L_take hr (pa_cons (pv 2) (pa_cons pe_int pa_nil)))) (@pss_cons _ _ _ _ _ (@ps_set _ _ (8) _ _ _ _ nd rfl (Or.inl rfl) (@pe_ix _ _ _ _ _ _ _ ix_list (@pe_lst _ _ _ _ (@pa_cons _ _ _ _ _ pe_int (@pa_cons _ _ _ _ _ (pe_un un_neg pe_int) (@pa_cons _ _ _ _ _ pe_bl (@pa_cons _ _ _ _ _ pe_bl (@pa_cons _ _ _ _ _ pe_non (@pa_cons _ _ _ _ _ pe_str (pa_cons (pe_tup (pa_cons pe_int pa_nil)) (pa_cons (pe_op op_pow pe_int pe_int) (pa_cons (pe_op op_add (pv 3) pe_int) (pa_cons (pe_un un_neg (pe_op op_pow pe_int pe_int)) (pa_cons (pe_lst (pa_cons pe_int pa_nil)) pa_nil))))) rfl) rfl) rfl) rfl) rfl) rfl)) (pe_def h_L_take hr (pa_cons (pv 2) (pa_cons pe_int pa_nil))) (fun _ _ => rfl)) rfl (by first | exact .inl rfl | exact .inr rfl)) (pss_one (ps_for PassesOwn.never rfl (pi_list (pe_lst (pa_cons (pe_tup (pa_cons (pv 8) (pa_cons pe_int pa_nil))) (pa_cons (pe_tup (pa_cons (pv 3) (pa_cons (pv 8) pa_nil))) (pa_cons (pe_tup (pa_cons (pv 8) (pa_cons (pv 8) pa_nil))) (pa_cons (pe_tup (pa_cons (pv 8) (pa_cons pe_non pa_nil))) pa_nil)))))) (pg_tup rfl (pgs_cons (pg_name (i := 9) nd rfl (Or.inr rfl)) (pgs_cons (pg_name (i := 10) nd rfl (Or.inr rfl)) pgs_nil)))
(pss_cons (ps_set (i := 11) nd rfl (Or.inl rfl) (pe_and (pe_def h_L_whole hr (pa_cons (pv 9) pa_nil)) (pe_and (pe_chain op_le op_le pe_int (pv 9) pe_int) (pe_and (pe_def h_L_whole hr (pa_cons (pv 10) pa_nil)) (pe_one (pe_chain op_le op_le pe_int (pv 10) (pv 9)))))))
(pss_cons (ps_if (PW.pt (pw_and (pt_not (pt_truth (pv 11) (fun _ => rfl))) (pw_and1 (pt_cmpR op_ne (pe_lambda (sc := defScope s_law) (N0 := ["_law_script", "_law_k", "_law_state_here", "_law_boxes", "_law_balls", "_law_due_here", "_law_turn", "_law_found", "_law_odd", "_law_one", "_law_other", "_law_right"]) (N := ["_law_one", "_law_other"]) (js := [9, 10]) h_ref hr hcd C Bl rfl rfl (by exact ⟨rfl, rfl, rfl, by decide +kernel⟩) (by exact ⟨rfl, by decide +kernel, by decide +kernel, by decide +kernel, rfl, rfl, by decide, by decide +kernel, by decide +kernel⟩) (fun base E cl f cd A outer s H hr => by exact (pe_defE (hE_all_rows base) lvs_lam hr (pa_cons (pv 0) (pa_cons (pv 1) pa_nil))))) pe_str (nomark _)))))
(pss_one (ps_ret pe_bl))
pss_nil)
(pss_one (ps_if (PW.pt (pw_and (pt_not (pt_truth (pv 11) (fun _ => rfl))) (pw_and1 (pt_cmpR op_ne (pe_lambda (sc := defScope s_law) (N0 := ["_law_script", "_law_k", "_law_state_here", "_law_boxes", "_law_balls", "_law_due_here", "_law_turn", "_law_found", "_law_odd", "_law_one", "_law_other", "_law_right"]) (N := ["_law_one", "_law_other"]) (js := [9, 10]) h_ref hr hcd C Bl rfl rfl (by exact ⟨rfl, rfl, rfl, by decide +kernel⟩) (by exact ⟨rfl, by decide +kernel, by decide +kernel, by decide +kernel, rfl, rfl, by decide, by decide +kernel, by decide +kernel⟩) (fun base E cl f cd A outer s H hr => by exact (pe_defE (hE_by_lengths base) lvs_lam hr (pa_cons (pv 0) (pa_cons (pv 1) pa_nil))))) pe_str (nomark _)))))
(pss_one (ps_ret pe_bl))
pss_nil))))))))) (by intro _; rfl)) (pss_one (ps_ret pe_bl))))), ?_⟩
  refine ⟨0, 0, rfl, by omega, by omega, fun r1 H1 s1 _ t1 => ?_⟩
  refine ⟨(by show 0 ≤ sizeLine; decide), fun q1 hq1 => ⟨(by show 1 ≤ sizeLine; decide), fun l1 hl1 => ?_⟩⟩
  have a1 := same_new hq1 (.tup [])
  have f1 : (upd H1 q1 (.tup [])) q1 = some (.tup (([] : List Int).map V.int)) := upd_same
  generalize upd H1 q1 (.tup []) = A1 at a1 f1 hl1 ⊢
  have a2 := same_new hl1 (.lst [.ref q1])
  have f2 : (upd A1 l1 (.lst [.ref q1])) l1 = some (.lst [.ref q1]) := upd_same
  generalize upd A1 l1 (.lst [.ref q1]) = A2 at a2 f2 ⊢
  have S2 := a1.trans a2
  obtain ⟨xs1, ys1, x1, y1, z1, d1⟩ := tl_de (bl := [[]]) (t1.same S2) (tl_one (r := []) f2 (a2 _ _ f1))
  refine ⟨r1, l1, xs1, ys1, rfl, rfl, SqL.of x1, SqL.of y1, z1, d1, _, rfl, iteF ?_⟩
  have T2 := s1.trans S2
  refine ⟨2, 1, rfl, by omega, by omega, fun r2 H2 s2 _ t2 => ?_⟩
  refine ⟨(by show 1 ≤ sizeLine; decide), fun q2 hq2 => ⟨(by show 1 ≤ sizeLine; decide), fun q3 hq3 => ⟨(by show 2 ≤ sizeLine; decide), fun l2 hl2 => ?_⟩⟩⟩
  have b1 := same_new hq2 (.tup [.int 0])
  have g1 : (upd H2 q2 (.tup [.int 0])) q2 = some (.tup (([0] : List Int).map V.int)) := upd_same
  generalize upd H2 q2 (.tup [.int 0]) = B1 at b1 g1 hq3 hl2 ⊢
  have b2 := same_new hq3 (.tup [.int 1])
  have g2 : (upd B1 q3 (.tup [.int 1])) q3 = some (.tup (([1] : List Int).map V.int)) := upd_same
  generalize upd B1 q3 (.tup [.int 1]) = B2 at b2 g2 hl2 ⊢
  have b3 := same_new hl2 (.lst [.ref q2, .ref q3])
  have g3 : (upd B2 l2 (.lst [.ref q2, .ref q3])) l2 = some (.lst [.ref q2, .ref q3]) := upd_same
  generalize upd B2 l2 (.lst [.ref q2, .ref q3]) = B3 at b3 g3 ⊢
  have S3 := b1.trans (b2.trans b3)
  have w21 : BB.waysL 2 1 = [[0], [1]] := by decide +kernel
  rw [w21] at t2
  obtain ⟨xs2, ys2, x2, y2, z2, d2⟩ := tl_de (t2.same S3) (tl_duo g3 (b3 _ _ (b2 _ _ g1)) (b3 _ _ g2))
  refine ⟨r2, l2, xs2, ys2, rfl, rfl, SqL.of x2, SqL.of y2, z2, d2, _, rfl, iteF ?_⟩
  have T3 := T2.trans (s2.trans S3)
  refine ⟨3, 3, rfl, by omega, by omega, fun r3 H3 s3 _ t3 => ?_⟩
  refine ⟨(by show 3 ≤ sizeLine; decide), fun q4 hq4 => ⟨(by show 1 ≤ sizeLine; decide), fun l3 hl3 => ?_⟩⟩
  have k1 := same_new hq4 (.tup [.int 0, .int 1, .int 2])
  have j1 : (upd H3 q4 (.tup [.int 0, .int 1, .int 2])) q4 = some (.tup (([0, 1, 2] : List Int).map V.int)) := upd_same
  generalize upd H3 q4 (.tup [.int 0, .int 1, .int 2]) = C1 at k1 j1 hl3 ⊢
  have k2 := same_new hl3 (.lst [.ref q4])
  have j2 : (upd C1 l3 (.lst [.ref q4])) l3 = some (.lst [.ref q4]) := upd_same
  generalize upd C1 l3 (.lst [.ref q4]) = C2 at k2 j2 ⊢
  have S4 := k1.trans k2
  have w33 : BB.waysL 3 3 = [[0, 1, 2]] := by decide +kernel
  rw [w33] at t3
  obtain ⟨xs3, ys3, x3, y3, z3, d3⟩ := tl_de (t3.same S4) (tl_one j2 (k2 _ _ j1))
  refine ⟨r3, l3, xs3, ys3, rfl, rfl, SqL.of x3, SqL.of y3, z3, d3, _, rfl, iteF ?_⟩
  have T4 := T3.trans (s3.trans S4)
  clear d1 d2 d3 t1 t2 t3
  refine ⟨_, rfl, a, _, rfl, .inl (T4.seq hS), _, _, rfl, _, _, rfl, _, rfl, ?_, ?_, ?_⟩
  · split <;> split <;> omega
  · split <;> split <;> omega
  refine for_range (fun i σ H' => Same H H' ∧ ∃ o1 o2 o3 o4 o5 o6 o7 o8 o9 o10 o11, σ = [some (.ref a), o1, o2, o3, o4, o5, o6, o7, o8, o9, o10, o11]) ⟨T4, _, _, _, _, _, _, _, _, _, _, _, rfl⟩ (fun i σ H0 hi hp => ?_) (fun σ H0 hp => ?_)
  · obtain ⟨sm, o1, o2, o3, o4, o5, o6, o7, o8, o9, o10, o11, rfl⟩ := hp
    refine ⟨_, rfl, _, rfl, a, ns, _, rfl, sm.seq hS, by omega, fun r x bb hr0 d => ?_⟩
    have st1 : StAt (upd H0 r (.lst [.int x, .bl bb])) r x bb := StAt.upd d
    generalize hG : upd H0 r (.lst [.int x, .bl bb]) = G at st1 ⊢
    have fin : ∀ H', Keep r G H' → Same H H' := fun H' k => sm.trans (same_keep hr0 (by rw [hG]; exact k))
    refine ⟨_, rfl, r, x, bb, 11, rfl, st1, by decide, by decide, fun v1 x1 v10 v11 d1 => ?_⟩
    have k1 := keep_upd r G (.lst [.int x1, .bl bb])
    have st2 : StAt (upd G r (.lst [.int x1, .bl bb])) r x1 bb := StAt.upd d1
    generalize upd G r (.lst [.int x1, .bl bb]) = G1 at k1 st2 ⊢
    refine ⟨_, rfl, _, rfl, _, _, rfl, rfl, r, x1, bb, _, rfl, st2, by omega, by omega, fun v2 x2 v20 v21 d2 => ?_⟩
    have k2 := k1.trans (keep_upd r G1 (.lst [.int x2, .bl bb]))
    generalize upd G1 r (.lst [.int x2, .bl bb]) = G2 at k2 ⊢
    obtain ⟨N, rfl⟩ := Int.eq_ofNat_of_zero_le v10
    obtain ⟨k, rfl⟩ := Int.eq_ofNat_of_zero_le v20
    have few := BB.few_ways N (by omega) k (by omega)
    have short : ∀ r ∈ BB.waysL N k, r.length ≤ 1000 := fun r hr => by rw [(BB.mem_ways.mp hr).len]; omega
    refine ⟨_, rfl, _, rfl, N, k, rfl, by omega, by omega, fun rd H4 s4 td => ?_⟩
    refine ⟨_, rfl, by decide, by decide, ?_⟩
    refine for_range (fun j σ H' => Same H4 H' ∧ ∃ o6 o7, σ = [some (.ref a), some (.int (0 + (i : Int))), some (.ref r), some (.int (N : Int)), some (.int (k : Int)), some (.ref rd), o6, o7, o8, o9, o10, o11]) ⟨Same.refl _, _, _, rfl⟩ (fun j σ H5 hj hp => ?_) (fun σ H5 hp => ?_)
    · obtain ⟨s5, o6, o7, rfl⟩ := hp
      refine ⟨_, rfl, _, rfl, N, k, rfl, by omega, by omega, fun rf H6 s6 hn tf => ?_⟩
      have s56 := s5.trans s6
      refine ⟨_, rfl, _, rfl, _, _, rfl, tl_sm tf (td.same s56) (by omega) short, fun H7 s7 => ⟨_, rfl, iteF ?_⟩⟩
      obtain ⟨xs, h6, l6, _⟩ := tf
      rw [List.length_map] at l6
      have h67 := s7 _ _ h6
      refine ⟨_, rfl, .inl ⟨rfl, _, SqL.of h67⟩, (by show 0 ≤ sizeLine; decide), fun e he => ?_⟩
      have s8 := same_new he (.tup [])
      refine ⟨rf, _, _, rfl, rfl, s8 _ _ h67, by rw [l6, sizeLine_eq]; omega, ?_⟩
      refine ⟨fun b o e => ?_, _, _, rfl⟩
      have e5 := s5 _ _ e
      have nb : b ≠ rf := ne_of_none e5 hn
      rw [upd_ne nb]
      exact s8 _ _ (s7 _ _ (s6 _ _ e5))
    · obtain ⟨s5, o6, o7, rfl⟩ := hp
      exact ⟨fin _ ((k2.same s4).same s5), _, _, _, _, _, _, _, _, _, _, _, rfl⟩
  obtain ⟨sm0, o1, o2, o3, o4, o5, o6, o7, o8, o9, o10, o11, rfl⟩ := hp
  have ntab : ∀ {H' : Hp}, Tab LQ H' T → ∀ {z : Addr} {o : HO}, H' z = some o → (∀ ps, o ≠ .tbl ps) → z ≠ T := fun {H'} tt {z o} e n y => by
    obtain ⟨l, e2, _⟩ := tt
    rw [y, e2] at e
    exact n _ (Option.some.inj e).symm
  refine ⟨_, rfl, a, _, rfl, .inl (sm0.seq hS), _, _, rfl, _, _, rfl, _, rfl, ?_, ?_, ?_⟩
  · split <;> split <;> omega
  · split <;> split <;> omega
  refine for_range (fun i σ H' => Same (lessT H T) H' ∧ Tab LQ H' T ∧ ∃ o1 o2 o3 o4 o5 o6 o7 o8 o9 o10 o11, σ = [some (.ref a), o1, o2, o3, o4, o5, o6, o7, o8, o9, o10, o11]) ⟨fun b u e => sm0 _ _ (lessT_some e).2, (Tab.empty hT).same sm0, _, _, _, _, _, _, _, _, _, _, _, rfl⟩ (fun i σ H0 hi hp => ?_) (fun σ H0 hp => q _)
  obtain ⟨sm, tb, o1, o2, o3, o4, o5, o6, o7, o8, o9, o10, o11, rfl⟩ := hp
  refine ⟨_, rfl, _, rfl, a, ns, _, rfl, sm.seq (seq_lessT hT hS), by omega, fun r x bb hr0 d => ?_⟩
  have st1 : StAt (upd H0 r (.lst [.int x, .bl bb])) r x bb := StAt.upd d
  have tbG : Tab LQ (upd H0 r (.lst [.int x, .bl bb])) T := tb.same (same_new hr0 _)
  generalize hG : upd H0 r (.lst [.int x, .bl bb]) = G at st1 tbG ⊢
  have fin : ∀ H', Keep r G H' → Same (lessT H T) H' := fun H' k => sm.trans (same_keep hr0 (by rw [hG]; exact k))
  refine ⟨_, rfl, r, x, bb, 11, rfl, st1, by decide, by decide, fun v1 x1 v10 v11 d1 => ?_⟩
  have k1 := keep_upd r G (.lst [.int x1, .bl bb])
  have st2 : StAt (upd G r (.lst [.int x1, .bl bb])) r x1 bb := StAt.upd d1
  generalize upd G r (.lst [.int x1, .bl bb]) = G1 at k1 st2 ⊢
  obtain ⟨N, rfl⟩ := Int.eq_ofNat_of_zero_le v10
  refine ⟨_, rfl, (by show 1 ≤ sizeLine; decide), fun pt hpt => ?_⟩
  have s13 := same_new hpt (.tup [.int 1])
  have hpt13 : (upd G1 pt (.tup [.int 1])) pt = some (.tup [.int 1]) := upd_same
  have ptr : pt ≠ r := (ne_of_none st2.1 hpt).symm
  have k13 := k1.same s13
  have st13 := st2.same s13
  generalize upd G1 pt (.tup [.int 1]) = H13 at hpt13 k13 st13 ⊢
  refine ⟨_, _, rfl, rfl, ⟨by decide, by decide, by decide⟩, _, rfl, _, _, rfl, rfl, _, _, rfl, rfl, ⟨by decide, by decide, by decide⟩, _, rfl, (by show 1 ≤ sizeLine; decide), fun pl hpl => ?_⟩
  have s14 := same_new hpl (.lst [.int 0])
  have hpl14 : (upd H13 pl (.lst [.int 0])) pl = some (.lst [.int 0]) := upd_same
  have plr : pl ≠ r := (ne_of_none st13.1 hpl).symm
  have k14 := k13.same s14
  have st14 := st13.same s14
  have hpt14 := s14 _ _ hpt13
  generalize upd H13 pl (.lst [.int 0]) = H14 at hpl14 hpt14 k14 st14 ⊢
  refine ⟨(by show 11 ≤ sizeLine; decide), fun po hpo => ?_⟩
  have s15 := same_new hpo (.lst [.int 11, .int (-1), .bl true, .bl false, .non, .str "1", .ref pt, .int ((10 : Int) ^ (29 : Int).toNat), .int ((N : Int) + 1), .int (-((10 : Int) ^ (29 : Int).toNat)), .ref pl])
  have hpo15 : (upd H14 po (.lst [.int 11, .int (-1), .bl true, .bl false, .non, .str "1", .ref pt, .int ((10 : Int) ^ (29 : Int).toNat), .int ((N : Int) + 1), .int (-((10 : Int) ^ (29 : Int).toNat)), .ref pl])) po = some (.lst [.int 11, .int (-1), .bl true, .bl false, .non, .str "1", .ref pt, .int ((10 : Int) ^ (29 : Int).toNat), .int ((N : Int) + 1), .int (-((10 : Int) ^ (29 : Int).toNat)), .ref pl]) := upd_same
  have por : po ≠ r := (ne_of_none st14.1 hpo).symm
  have k15 := k14.same s15
  have st15 := st14.same s15
  have hpt15 := s15 _ _ hpt14
  have hpl15 := s15 _ _ hpl14
  generalize upd H14 po (.lst [.int 11, .int (-1), .bl true, .bl false, .non, .str "1", .ref pt, .int ((10 : Int) ^ (29 : Int).toNat), .int ((N : Int) + 1), .int (-((10 : Int) ^ (29 : Int).toNat)), .ref pl]) = H15 at hpo15 hpl15 hpt15 k15 st15 ⊢
  refine ⟨_, rfl, r, x1, bb, 11, rfl, st15, by decide, by decide, fun v4 x16 v40 v41 d16 => ?_⟩
  have kk := keep_upd r H15 (.lst [.int x16, .bl bb])
  have k16 := k15.trans kk
  have hpt16 := kk _ _ ptr hpt15
  have hpl16 := kk _ _ plr hpl15
  have hpo16 := kk _ _ por hpo15
  generalize upd H15 r (.lst [.int x16, .bl bb]) = H16 at kk k16 hpt16 hpl16 hpo16 ⊢
  obtain ⟨u, hu, um, _⟩ := at_mem (xs := [.int 11, .int (-1), .bl true, .bl false, .non, .str "1", .ref pt, .int ((10 : Int) ^ (29 : Int).toNat), .int ((N : Int) + 1), .int (-((10 : Int) ^ (29 : Int).toNat)), .ref pl]) v40 (by simpa using v41)
  have kn : ∀ H' : Hp, H' pt = some (.tup [.int 1]) → H' pl = some (.lst [.int 0]) → ∃ Tn, Kn H' u Tn := fun H' y1 y2 => by
    simp only [List.mem_cons, List.not_mem_nil, or_false] at um
    rcases um with rfl | rfl | rfl | rfl | rfl | rfl | rfl | rfl | rfl | rfl | rfl
    · exact ⟨_, .int _⟩
    · exact ⟨_, .int _⟩
    · exact ⟨_, .bl _⟩
    · exact ⟨_, .bl _⟩
    · exact ⟨_, .non⟩
    · exact ⟨_, .str _⟩
    · exact ⟨_, .tup y1⟩
    · exact ⟨_, .int _⟩
    · exact ⟨_, .int _⟩
    · exact ⟨_, .int _⟩
    · exact ⟨_, .lst y2⟩
  refine ⟨po, _, _, _, rfl, rfl, SqL.of hpo16, hu, ?_⟩
  have tb16 : Tab LQ H16 T := tab_keep tbG st1.1 k16
  have fin16 := fin _ k16
  clear um hu
  refine ⟨_, rfl, (by show 2 ≤ sizeLine; decide), fun t1 ht1 => ⟨_, rfl, _, rfl, (by show 2 ≤ sizeLine; decide), fun t2 ht2 => ⟨_, rfl, _, rfl, (by show 2 ≤ sizeLine; decide), fun t3 ht3 => ⟨_, rfl, (by show 2 ≤ sizeLine; decide), fun t4 ht4 => ⟨(by show 4 ≤ sizeLine; decide), fun lp hlp => ?_⟩⟩⟩⟩⟩
  have e1 := same_new ht1 (.tup [u, .int 0])
  have f1 : (upd H16 t1 (.tup [u, .int 0])) t1 = some (.tup [u, .int 0]) := upd_same
  generalize upd H16 t1 (.tup [u, .int 0]) = D1 at e1 f1 ht2 ht3 ht4 hlp ⊢
  have e2 := same_new ht2 (.tup [.int (N : Int), u])
  have f2 : (upd D1 t2 (.tup [.int (N : Int), u])) t2 = some (.tup [.int (N : Int), u]) := upd_same
  generalize upd D1 t2 (.tup [.int (N : Int), u]) = D2 at e2 f2 ht3 ht4 hlp ⊢
  have e3 := same_new ht3 (.tup [u, u])
  have f3 : (upd D2 t3 (.tup [u, u])) t3 = some (.tup [u, u]) := upd_same
  generalize upd D2 t3 (.tup [u, u]) = D3 at e3 f3 ht4 hlp ⊢
  have e4 := same_new ht4 (.tup [u, .non])
  have f4 : (upd D3 t4 (.tup [u, .non])) t4 = some (.tup [u, .non]) := upd_same
  generalize upd D3 t4 (.tup [u, .non]) = D4 at e4 f4 hlp ⊢
  have e5 := same_new hlp (.lst [.ref t1, .ref t2, .ref t3, .ref t4])
  have f5 : (upd D4 lp (.lst [.ref t1, .ref t2, .ref t3, .ref t4])) lp = some (.lst [.ref t1, .ref t2, .ref t3, .ref t4]) := upd_same
  generalize upd D4 lp (.lst [.ref t1, .ref t2, .ref t3, .ref t4]) = Hx at e5 f5 ⊢
  have E5 := e1.trans (e2.trans (e3.trans (e4.trans e5)))
  have tbx : Tab LQ Hx T := tb16.same E5
  have inX : ∀ {z : Addr} {o : HO}, Hx z = some o → (∀ ps, o ≠ .tbl ps) → ∀ {H' : Hp}, Same (lessT Hx T) H' → H' z = some o := fun {z o} e n {H'} s => s _ _ (lessT_in (ntab tbx e n) e)
  have hptx := E5 _ _ hpt16
  have hplx := E5 _ _ hpl16
  have ft1 := e5 _ _ (e4 _ _ (e3 _ _ (e2 _ _ f1)))
  have ft2 := e5 _ _ (e4 _ _ (e3 _ _ f2))
  have ft3 := e5 _ _ (e4 _ _ f3)
  have ft4 := e5 _ _ f4
  have kx : ∀ {H' : Hp}, Same (lessT Hx T) H' → ∃ Tn, Kn H' u Tn := fun {H'} s => kn H' (inX hptx (fun _ z => nomatch z) s) (inX hplx (fun _ z => nomatch z) s)
  have items : ∀ (j : Nat) (x : V), [V.ref t1, .ref t2, .ref t3, .ref t4][j]? = some x → ∃ (t : Addr) (p q : V), x = .ref t ∧ Hx t = some (.tup [p, q]) ∧ ∀ {H' : Hp}, Same (lessT Hx T) H' → (∃ Tn, Kn H' p Tn) ∧ ∃ Tn, Kn H' q Tn := fun j x e => by
    match j, e with
    | 0, e => cases e; exact ⟨t1, _, _, rfl, ft1, fun s => ⟨kx s, _, .int _⟩⟩
    | 1, e => cases e; exact ⟨t2, _, _, rfl, ft2, fun s => ⟨⟨_, .int _⟩, kx s⟩⟩
    | 2, e => cases e; exact ⟨t3, _, _, rfl, ft3, fun s => ⟨kx s, kx s⟩⟩
    | 3, e => cases e; exact ⟨t4, _, _, rfl, ft4, fun s => ⟨kx s, _, .non⟩⟩
  refine ⟨lp, rfl, ⟨_, SqL.of f5⟩, ?_⟩
  refine for_list (xs := [.ref t1, .ref t2, .ref t3, .ref t4]) (fun j σ H' => Same (lessT Hx T) H' ∧ Tab LQ H' T ∧ ∃ o9 o10 o11, σ = [some (.ref a), some (.int (0 + (i : Int))), some (.ref r), some (.int (N : Int)), o4, o5, o6, o7, some u, o9, o10, o11]) ⟨fun b u e => (lessT_some e).2, tbx, _, _, _, rfl⟩ (fun j σ H2 hj hp => ?_) (fun j x σ H2 hxi hp => ?_) (fun σ H2 hp => ?_)
  · exact SqL.of (inX f5 (fun _ z => nomatch z) hp.1)
  · obtain ⟨s2, tb2, o9, o10, o11, rfl⟩ := hp
    obtain ⟨t, p, p', rfl, htx, kt⟩ := items j x hxi
    have ht2 := inX htx (fun _ z => nomatch z) s2
    obtain ⟨⟨Tp, kp⟩, Tq, kq⟩ := kt s2
    refine ⟨t, _, rfl, SqT.of ht2, rfl, _, _, rfl, _, _, rfl, rfl, ?_⟩
    refine right_rd rfl rfl kp kq ?_ (fun wr => ?_)
    · exact ⟨_, rfl, _, rfl, iteF (iteF ⟨_, rfl, _, rfl, iteF (iteF ⟨s2, tb2, _, _, _, rfl⟩)⟩)⟩
    refine ⟨_, rfl, _, rfl, iteT ⟨tb2, fun f0 H17 L => ?_⟩⟩
    have s17 : Same (lessT Hx T) H17 := fun b o e => L.grow b o (lessT_some e).1 (s2 _ _ e)
    obtain ⟨⟨Tp2, kp2⟩, Tq2, kq2⟩ := kt s17
    refine ⟨_, rfl, _, rfl, p, p', Tp2, Tq2, rfl, kp2, kq2, wr, fun e he => ⟨c0, bm0, e, 0, rfl, rfl, he, e0, hin, kd, fun H18 s18 => ?_⟩⟩
    refine ⟨rfl, _, rfl, iteNS rfl ?_⟩
    have z17 := (same_new he (ExcO e c0)).trans s18
    have tb18 : Tab LQ H18 T := L.tab.same z17
    refine ⟨_, rfl, _, rfl, iteT ⟨tb18, fun f1 H19 L2 => ?_⟩⟩
    have s19 : Same (lessT Hx T) H19 := fun b o e => L2.grow b o (lessT_some e).1 (z17 _ _ (s17 _ _ e))
    obtain ⟨⟨Tp3, kp3⟩, Tq3, kq3⟩ := kt s19
    refine ⟨_, rfl, _, rfl, p, p', Tp3, Tq3, rfl, kp3, kq3, wr, fun e2 he2 => ⟨c0, bm0, e2, 0, rfl, rfl, he2, e0, hin, kd, fun H20 s20 => ?_⟩⟩
    refine ⟨rfl, _, rfl, iteNS rfl ?_⟩
    have z19 := (same_new he2 (ExcO e2 c0)).trans s20
    exact ⟨fun b o e => z19 _ _ (s19 _ _ e), L2.tab.same z19, _, _, _, rfl⟩
  · obtain ⟨s2, tb2, o9, o10, o11, rfl⟩ := hp
    exact ⟨fun b o e => s2 _ _ (lessT_in (lessT_some e).1 (E5 _ _ (fin16 _ _ e))), tb2, _, _, _, _, _, _, _, _, _, _, _, rfl⟩
end
end K82
end
namespace K82
open PySem PySem.Spec PyProof.Rows L2
set_option maxHeartbeats 4000000
set_option Elab.async false
theorem all_mk {l : PySem.W.OpenLaw} {w : World} {K : PySem.W.Frag} {h : Heap} {mg : Str → Option Value} {fa c T b_ c0_ c1_ c2_ c3_ c4_ f1 f2 f3 f4 f5 f6 f7 f8 f9 f10 f11 f12 f13 f14 : Addr} (X : K.In h) (G : h.Ns mainGlobals mg) (hfa : mg "law" = some (.ref fa))
    {od1 an1 od2 an2 od3 an3 od4 an4 od5 an5 od6 an6 od7 an7 od8 an8 od9 an9 od10 an10 od11 an11 od12 an12 od13 an13 od14 an14 : Option Addr} {sl1 sl2 sl3 sl4 sl5 sl6 sl7 sl8 sl9 sl10 sl11 sl12 sl13 sl14 : Array (Option Value)} {oc1 kV1 dc1 pm1 cd1 ct1 oc2 kV2 dc2 pm2 cd2 ct2 oc3 kV3 dc3 pm3 cd3 ct3 oc4 kV4 dc4 pm4 cd4 ct4 oc5 kV5 dc5 pm5 cd5 ct5 oc6 kV6 dc6 pm6 cd6 ct6 oc7 kV7 dc7 pm7 cd7 ct7 oc8 kV8 dc8 pm8 cd8 ct8 oc9 kV9 dc9 pm9 cd9 ct9 oc10 kV10 dc10 pm10 cd10 ct10 oc11 kV11 dc11 pm11 cd11 ct11 oc12 kV12 dc12 pm12 cd12 ct12 oc13 kV13 dc13 pm13 cd13 ct13 oc14 kV14 dc14 pm14 ct14 : Value}
    {u1 : Value}
    {nmb_ qqb_ : Str} {Nb_ : Addr} {bsb_ bmb_ sbb_ : List Value} {hdb_ abb_ : Bool} {snb_ : List Str} {cob_ : Option Bool} {ddb_ : Option Addr} {w0b_ w1b_ w2b_ w3b_ w5b_ : Option Value}
    {nmc0_ qqc0_ : Str} {Nc0_ : Addr} {bsc0_ bmc0_ sbc0_ : List Value} {hdc0_ abc0_ : Bool} {snc0_ : List Str} {coc0_ : Option Bool} {ddc0_ : Option Addr} {w0c0_ w1c0_ w2c0_ w3c0_ w5c0_ : Option Value}
    (a1 : PySem.W.nsIn K mainGlobals "is_number" = some (some (.ref f1))) (l1 : K.lookup f1 = some ⟨oc1, od1, .func (PySem.W.fnOf "is_number" "is_number" (defArgs s_is_number) (defBody s_is_number) (defScope s_is_number) .none kV1 dc1 pm1 an1 cd1 ct1), sl1⟩) (c1 : PySem.W.codeIn K cd1 "is_number" = true) (k1 : PySem.W.keepIn K (.ref f1) = true)
    (a2 : PySem.W.nsIn K mainGlobals "need_number" = some (some (.ref f2))) (l2 : K.lookup f2 = some ⟨oc2, od2, .func (PySem.W.fnOf "need_number" "need_number" (defArgs s_need_number) (defBody s_need_number) (defScope s_need_number) .none kV2 dc2 pm2 an2 cd2 ct2), sl2⟩) (c2 : PySem.W.codeIn K cd2 "need_number" = true) (k2 : PySem.W.keepIn K (.ref f2) = true)
    (a3 : PySem.W.nsIn K mainGlobals "ways" = some (some (.ref f3))) (l3 : K.lookup f3 = some ⟨oc3, od3, .func (PySem.W.fnOf "ways" "ways" (defArgs s_ways) (defBody s_ways) (defScope s_ways) .none kV3 dc3 pm3 an3 cd3 ct3), sl3⟩) (c3 : PySem.W.codeIn K cd3 "ways" = true) (k3 : PySem.W.keepIn K (.ref f3) = true)
    (a4 : PySem.W.nsIn K mainGlobals "counted_by_lengths" = some (some (.ref f4))) (l4 : K.lookup f4 = some ⟨oc4, od4, .func (PySem.W.fnOf "counted_by_lengths" "counted_by_lengths" (defArgs s_counted_by_lengths) (defBody s_counted_by_lengths) (defScope s_counted_by_lengths) .none kV4 dc4 pm4 an4 cd4 ct4), sl4⟩) (c4 : PySem.W.codeIn K cd4 "counted_by_lengths" = true) (k4 : PySem.W.keepIn K (.ref f4) = true)
    (a5 : PySem.W.nsIn K mainGlobals "all_rows" = some (some (.ref f5))) (l5 : K.lookup f5 = some ⟨oc5, od5, .func (PySem.W.fnOf "all_rows" "all_rows" (defArgs s_all_rows) (defBody s_all_rows) (defScope s_all_rows) .none kV5 dc5 pm5 an5 cd5 ct5), sl5⟩) (c5 : PySem.W.codeIn K cd5 "all_rows" = true) (k5 : PySem.W.keepIn K (.ref f5) = true)
    (a6 : PySem.W.nsIn K mainGlobals "by_lengths" = some (some (.ref f6))) (l6 : K.lookup f6 = some ⟨oc6, od6, .func (PySem.W.fnOf "by_lengths" "by_lengths" (defArgs s_by_lengths) (defBody s_by_lengths) (defScope s_by_lengths) .none kV6 dc6 pm6 an6 cd6 ct6), sl6⟩) (c6 : PySem.W.codeIn K cd6 "by_lengths" = true) (k6 : PySem.W.keepIn K (.ref f6) = true)
    (a7 : PySem.W.nsIn K mainGlobals "_law_cell_at" = some (some (.ref f7))) (l7 : K.lookup f7 = some ⟨oc7, od7, .func (PySem.W.fnOf "_law_cell_at" "_law_cell_at" (defArgs s_L_cell_at) (defBody s_L_cell_at) (defScope s_L_cell_at) .none kV7 dc7 pm7 an7 cd7 ct7), sl7⟩) (c7 : PySem.W.codeIn K cd7 "_law_cell_at" = true) (k7 : PySem.W.keepIn K (.ref f7) = true)
    (a8 : PySem.W.nsIn K mainGlobals "_law_state" = some (some (.ref f8))) (l8 : K.lookup f8 = some ⟨oc8, od8, .func (PySem.W.fnOf "_law_state" "_law_state" (defArgs s_L_state) (defBody s_L_state) (defScope s_L_state) .none kV8 dc8 pm8 an8 cd8 ct8), sl8⟩) (c8 : PySem.W.codeIn K cd8 "_law_state" = true) (k8 : PySem.W.keepIn K (.ref f8) = true)
    (a9 : PySem.W.nsIn K mainGlobals "_law_take" = some (some (.ref f9))) (l9 : K.lookup f9 = some ⟨oc9, od9, .func (PySem.W.fnOf "_law_take" "_law_take" (defArgs s_L_take) (defBody s_L_take) (defScope s_L_take) .none kV9 dc9 pm9 an9 cd9 ct9), sl9⟩) (c9 : PySem.W.codeIn K cd9 "_law_take" = true) (k9 : PySem.W.keepIn K (.ref f9) = true)
    (a10 : PySem.W.nsIn K mainGlobals "_law_whole" = some (some (.ref f10))) (l10 : K.lookup f10 = some ⟨oc10, od10, .func (PySem.W.fnOf "_law_whole" "_law_whole" (defArgs s_L_whole) (defBody s_L_whole) (defScope s_L_whole) .none kV10 dc10 pm10 an10 cd10 ct10), sl10⟩) (c10 : PySem.W.codeIn K cd10 "_law_whole" = true) (k10 : PySem.W.keepIn K (.ref f10) = true)
    (a11 : PySem.W.nsIn K mainGlobals "_law_same" = some (some (.ref f11))) (l11 : K.lookup f11 = some ⟨oc11, od11, .func (PySem.W.fnOf "_law_same" "_law_same" (defArgs s_L_same) (defBody s_L_same) (defScope s_L_same) .none kV11 dc11 pm11 an11 cd11 ct11), sl11⟩) (c11 : PySem.W.codeIn K cd11 "_law_same" = true) (k11 : PySem.W.keepIn K (.ref f11) = true)
    (a12 : PySem.W.nsIn K mainGlobals "_law_refused" = some (some (.ref f12))) (l12 : K.lookup f12 = some ⟨oc12, od12, .func (PySem.W.fnOf "_law_refused" "_law_refused" (defArgs s_L_refused) (defBody s_L_refused) (defScope s_L_refused) .none kV12 dc12 pm12 an12 cd12 ct12), sl12⟩) (c12 : PySem.W.codeIn K cd12 "_law_refused" = true) (k12 : PySem.W.keepIn K (.ref f12) = true)
    (a13 : PySem.W.nsIn K mainGlobals "_law_due" = some (some (.ref f13))) (l13 : K.lookup f13 = some ⟨oc13, od13, .func (PySem.W.fnOf "_law_due" "_law_due" (defArgs s_L_due) (defBody s_L_due) (defScope s_L_due) .none kV13 dc13 pm13 an13 cd13 ct13), sl13⟩) (c13 : PySem.W.codeIn K cd13 "_law_due" = true) (k13 : PySem.W.keepIn K (.ref f13) = true)
    (a14 : PySem.W.nsIn K mainGlobals "law" = some (some (.ref f14))) (l14 : K.lookup f14 = some ⟨oc14, od14, .func (PySem.W.fnOf "law" "law" (defArgs s_law) (defBody s_law) (defScope s_law) .none kV14 dc14 pm14 an14 (.ref c) ct14), sl14⟩) (c14 : PySem.W.codeIn K (.ref c) "law" = true) (k14 : PySem.W.keepIn K (.ref f14) = true)
    (n1 : PySem.W.nsIn K mainGlobals "MOST_BOXES" = some (some u1)) (e1 : RelV (.int 10) u1)
    (xb_ : PySem.W.nsIn K mainGlobals "BallError" = some (some (.ref b_)))
    (xc0_ : PySem.W.nsIn K mainGlobals "NoNumber" = some (some (.ref c0_)))
    (xc1_ : PySem.W.nsIn K mainGlobals "NotFree" = some (some (.ref c1_)))
    (xc2_ : PySem.W.nsIn K mainGlobals "TooLong" = some (some (.ref c2_)))
    (xc3_ : PySem.W.nsIn K mainGlobals "NoRow" = some (some (.ref c3_)))
    (xc4_ : PySem.W.nsIn K mainGlobals "BadNote" = some (some (.ref c4_)))
    (lkb_ : K.lookup b_ = some (excClassObj nmb_ qqb_ b_ Nb_ bsb_ bmb_ hdb_ snb_ sbb_ abb_ cob_ ddb_ w0b_ w1b_ w2b_ w3b_ w5b_ "ValueError.__new__")) (nob_ : PySem.W.nsOkIn K Nb_ = true) (nib_ : PySem.W.nsIn K Nb_ "__init__" = some none) (tlb_ : PySem.W.tailIn K mroV bmb_ = true) (cbb_ : bmb_.contains (.type "BaseException") = true) (cvb_ : bmb_.contains (.type "ValueError") = true)
    (lkc0_ : K.lookup c0_ = some (excClassObj nmc0_ qqc0_ c0_ Nc0_ bsc0_ bmc0_ hdc0_ snc0_ sbc0_ abc0_ coc0_ ddc0_ w0c0_ w1c0_ w2c0_ w3c0_ w5c0_ "ValueError.__new__")) (noc0_ : PySem.W.nsOkIn K Nc0_ = true) (nic0_ : PySem.W.nsIn K Nc0_ "__init__" = some none) (tlc0_ : PySem.W.tailIn K mroV bmc0_ = true) (cbc0_ : bmc0_.contains (.type "BaseException") = true) (cvc0_ : bmc0_.contains (.type "ValueError") = true)
    (g1c0_ : PySem.W.findIn K (.ref c0_) "__getattribute__" = some (some (.builtin "BaseException.__getattribute__"))) (g2c0_ : PySem.W.findIn K (.ref c0_) "__class__" = some (some (.builtin "object.__class__"))) (g3c0_ : PySem.W.findIn K (.ref c0_) "__getattr__" = some none) (g4c0_ : PySem.W.subIn K (.ref c0_) (.type "BaseException") = some true) (g5c0_ : PySem.W.subIn K (.ref c0_) (.type "object") = some true)
    (q0c0_ : PySem.W.kitOne K (.ref c0_) (.ref c0_) = some true) (q1c0_ : PySem.W.kitOne K (.ref c0_) (.ref c1_) = some false) (q2c0_ : PySem.W.kitOne K (.ref c0_) (.ref c2_) = some false) (q3c0_ : PySem.W.kitOne K (.ref c0_) (.ref c3_) = some false) (q4c0_ : PySem.W.kitOne K (.ref c0_) (.ref c4_) = some false) (qvc0_ : PySem.W.kitOne K (.ref c0_) (.type "ValueError") = some true) (hic0_ : (Value.ref c0_ :: bmc0_).contains (.ref b_) = true)
    (ch : PySem.W.codeHdIn K c T = true) (kt : K.lookup T = none)
    (z1 : PySem.W.nsIn K mainGlobals "len" = some none) (z2 : PySem.W.nsIn K mainGlobals "isinstance" = some none) (z3 : PySem.W.nsIn K mainGlobals "bool" = some none) (z4 : PySem.W.nsIn K mainGlobals "int" = some none) (z5 : PySem.W.nsIn K mainGlobals "tuple" = some none) (z6 : PySem.W.nsIn K mainGlobals "list" = some none) (z7 : PySem.W.nsIn K mainGlobals "range" = some none) (z8 : PySem.W.nsIn K mainGlobals "zip" = some none) (z9 : PySem.W.nsIn K mainGlobals "all" = some none) (z10 : PySem.W.nsIn K mainGlobals "max" = some none) (z11 : PySem.W.nsIn K mainGlobals "min" = some none) (z12 : PySem.W.nsIn K mainGlobals "reversed" = some none) (z13 : PySem.W.nsIn K mainGlobals "abs" = some none) (z14 : PySem.W.nsIn K mainGlobals "dict" = some none) (z15 : PySem.W.nsIn K mainGlobals "sorted" = some none) (z16 : PySem.W.nsIn K mainGlobals "sum" = some none) (z17 : PySem.W.nsIn K mainGlobals "ValueError" = some none) :
    ∃ (fd : FuncData) (c : Addr), (∀ (s : Shared) (v : Value), BindsTo s fd ⟨[v], []⟩ [("_law_script", v)]) ∧ K.lookup T = none ∧ PySem.W.codeHdIn K c T = true ∧ ∀ base : Heap, K.In base → base.Ns mainGlobals mg → BltAt mg base → FnOk l.prog w K mg base CX0 7 fa fd ["_law_script"] (spLaw K T) := by
  have e := hfa.symm.trans (PySem.W.mg_of X G a14)
  cases e
  have F1 := fun_mk (st := s_is_number) l1 c1 k1
  have b1 := F1.binds (ps := ["thing", "least", "greatest"]) fun _ _ _ _ _ _ us hl => match us, hl with | [_, _, _], _ => rfl
  have F2 := fun_mk (st := s_need_number) l2 c2 k2
  have b2 := F2.binds (ps := ["thing", "least", "greatest"]) fun _ _ _ _ _ _ us hl => match us, hl with | [_, _, _], _ => rfl
  have F3 := fun_mk (st := s_ways) l3 c3 k3
  have b3 := F3.binds (ps := ["boxes", "balls"]) fun _ _ _ _ _ _ us hl => match us, hl with | [_, _], _ => rfl
  have F4 := fun_mk (st := s_counted_by_lengths) l4 c4 k4
  have b4 := F4.binds (ps := ["rows"]) fun _ _ _ _ _ _ us hl => match us, hl with | [_], _ => rfl
  have F5 := fun_mk (st := s_all_rows) l5 c5 k5
  have b5 := F5.binds (ps := ["boxes", "balls"]) fun _ _ _ _ _ _ us hl => match us, hl with | [_, _], _ => rfl
  have F6 := fun_mk (st := s_by_lengths) l6 c6 k6
  have b6 := F6.binds (ps := ["boxes", "balls"]) fun _ _ _ _ _ _ us hl => match us, hl with | [_, _], _ => rfl
  have F7 := fun_mk (st := s_L_cell_at) l7 c7 k7
  have b7 := F7.binds (ps := ["_law_script", "_law_k"]) fun _ _ _ _ _ _ us hl => match us, hl with | [_, _], _ => rfl
  have F8 := fun_mk (st := s_L_state) l8 c8 k8
  have b8 := F8.binds (ps := ["_law_script", "_law_k"]) fun _ _ _ _ _ _ us hl => match us, hl with | [_, _], _ => rfl
  have F9 := fun_mk (st := s_L_take) l9 c9 k9
  have b9 := F9.binds (ps := ["_law_state_here", "_law_many"]) fun _ _ _ _ _ _ us hl => match us, hl with | [_, _], _ => rfl
  have F10 := fun_mk (st := s_L_whole) l10 c10 k10
  have b10 := F10.binds (ps := ["_law_thing"]) fun _ _ _ _ _ _ us hl => match us, hl with | [_], _ => rfl
  have F11 := fun_mk (st := s_L_same) l11 c11 k11
  have b11 := F11.binds (ps := ["_law_found", "_law_due_here"]) fun _ _ _ _ _ _ us hl => match us, hl with | [_, _], _ => rfl
  have F12 := fun_mk (st := s_L_refused) l12 c12 k12
  have b12 := F12.binds (ps := ["_law_call"]) fun _ _ _ _ _ _ us hl => match us, hl with | [_], _ => rfl
  have F13 := fun_mk (st := s_L_due) l13 c13 k13
  have b13 := F13.binds (ps := ["_law_boxes", "_law_balls"]) fun _ _ _ _ _ _ us hl => match us, hl with | [_, _], _ => rfl
  have F14 := fun_mk (st := s_law) l14 c14 k14
  have nb0 : Nb mg := ⟨PySem.W.mg_none_of X G z1, PySem.W.mg_none_of X G z2, PySem.W.mg_none_of X G z3, PySem.W.mg_none_of X G z4, PySem.W.mg_none_of X G z5, PySem.W.mg_none_of X G z6, PySem.W.mg_none_of X G z7, PySem.W.mg_none_of X G z8, PySem.W.mg_none_of X G z9, PySem.W.mg_none_of X G z10, PySem.W.mg_none_of X G z11⟩
  have nb2 : Nb2 mg := ⟨nb0, PySem.W.mg_none_of X G z12, PySem.W.mg_none_of X G z13⟩
  have nb3 : Nb3 mg := ⟨nb2, PySem.W.mg_none_of X G z14, PySem.W.mg_none_of X G z15⟩
  have nb : Nb4 mg := ⟨nb3, PySem.W.mg_none_of X G z16, PySem.W.mg_none_of X G z17⟩
  have c_MOST_BOXES : ∃ u, mg "MOST_BOXES" = some u ∧ RelV (.int 10) u := ⟨u1, PySem.W.mg_of X G n1, e1⟩
  have exb_ : Exc K b_ bmb_ := ⟨⟨_, _, _, _, _, _, _, _, _, _, _, _, _, _, _, lkb_, nob_, nib_⟩, tlb_, cbb_, cvb_⟩
  have exc0_ : Exc K c0_ bmc0_ := ⟨⟨_, _, _, _, _, _, _, _, _, _, _, _, _, _, _, lkc0_, noc0_, nic0_⟩, tlc0_, cbc0_, cvc0_⟩
  have efc0_ : ExcF K c0_ bmc0_ := ⟨exc0_, g1c0_, g2c0_, g3c0_, g4c0_, g5c0_⟩
  have kdc0_ : Kind5 K c0_ c1_ c2_ c3_ c4_ c0_ 0 := ⟨q0c0_, q1c0_, q2c0_, q3c0_, q4c0_, qvc0_, by decide⟩
  have er : Errs K mg b_ c0_ c1_ c2_ c3_ c4_ := ⟨PySem.W.mg_of X G xb_, PySem.W.mg_of X G xc0_, PySem.W.mg_of X G xc1_, PySem.W.mg_of X G xc2_, PySem.W.mg_of X G xc3_, PySem.W.mg_of X G xc4_, ⟨_, exb_⟩⟩
  refine ⟨PySem.W.fnOf "law" "law" (defArgs s_law) (defBody s_law) (defScope s_law) .none kV14 dc14 pm14 an14 (.ref c) ct14, c, fun s v => .of_eq rfl, kt, ch, fun base kb _ Bl => ?_⟩
  have hA_is_number : ∀ base, Has l.prog w K mg base 1 "is_number" ["thing", "least", "greatest"] spNum := fun base => ⟨f1, _, ok_is_number F1 nb0, PySem.W.mg_of X G a1, k1, b1⟩
  have hA_need_number : ∀ base, Has l.prog w K mg base 2 "need_number" ["thing", "least", "greatest"] spNeed := fun base => ⟨f2, _, ok_need_number F2 nb3 (hA_is_number base), PySem.W.mg_of X G a2, k2, b2⟩
  have hE_need_number : ∀ base, HasE l.prog w K mg base 2 "need_number" ["thing", "least", "greatest"] (spNeedE c0_) := fun base => ⟨f2, _, ok_need_numberE F2 nb3 (hA_is_number base) er.m0 efc0_.toExc, PySem.W.mg_of X G a2, k2, b2⟩
  have hE_all_rows : ∀ base, HasE l.prog w K mg base 3 "all_rows" ["boxes", "balls"] (spAllE c0_) := fun base => ⟨f5, _, ok_all_rowsE F5 nb3 (hA_need_number base) (hE_need_number base) c_MOST_BOXES, PySem.W.mg_of X G a5, k5, b5⟩
  have hA_counted_by_lengths : ∀ base, Has l.prog w K mg base 0 "counted_by_lengths" ["rows"] spNone := fun base => ⟨f4, _, none_at, PySem.W.mg_of X G a4, k4, b4⟩
  have hE_by_lengths : ∀ base, HasE l.prog w K mg base 4 "by_lengths" ["boxes", "balls"] (spAllE c0_) := fun base => ⟨f6, _, ok_by_lengthsE F6 (hA_counted_by_lengths base) (hE_all_rows base), PySem.W.mg_of X G a6, k6, b6⟩
  have h_ref : HasR l.prog w K mg 6 5 "_law_refused" "_law_call" Rn (Ec K b_ c0_ c1_ c2_ c3_ c4_) := ⟨f12, _, fun base => ok_L_refused F12 nb er, PySem.W.mg_of X G a12, k12, b12⟩
  have h_ways : Has l.prog w K mg base 1 "ways" ["boxes", "balls"] spWays := ⟨f3, _, ok_ways F3 nb0, PySem.W.mg_of X G a3, k3, b3⟩
  have h_all_rows : Has l.prog w K mg base 3 "all_rows" ["boxes", "balls"] spAll := ⟨f5, _, ok_all_rows F5 nb3 (hA_need_number base) h_ways c_MOST_BOXES, PySem.W.mg_of X G a5, k5, b5⟩
  have h_L_cell_at : Has l.prog w K mg base 1 "_law_cell_at" ["_law_script", "_law_k"] (spCell K) := ⟨f7, _, ok_L_cell_at F7 nb0, PySem.W.mg_of X G a7, k7, b7⟩
  have h_L_state : Has l.prog w K mg base 2 "_law_state" ["_law_script", "_law_k"] (spState K) := ⟨f8, _, ok_L_state F8 nb0 h_L_cell_at, PySem.W.mg_of X G a8, k8, b8⟩
  have h_L_take : Has l.prog w K mg base 1 "_law_take" ["_law_state_here", "_law_many"] (spTake K) := ⟨f9, _, ok_L_take F9 nb0, PySem.W.mg_of X G a9, k9, b9⟩
  have h_L_whole : Has l.prog w K mg base 1 "_law_whole" ["_law_thing"] spWh := ⟨f10, _, ok_L_whole F10 nb3, PySem.W.mg_of X G a10, k10, b10⟩
  have h_L_due : Has l.prog w K mg base 4 "_law_due" ["_law_boxes", "_law_balls"] spDue := ⟨f13, _, ok_L_due F13 nb3, PySem.W.mg_of X G a13, k13, b13⟩
  have hs0 : Has l.prog w K mg base 0 "_law_same" ["_law_found", "_law_due_here"] (spSame 0) := ⟨f11, _, none_left, PySem.W.mg_of X G a11, k11, b11⟩
  have hs1 : Has l.prog w K mg base 1 "_law_same" ["_law_found", "_law_due_here"] (spSame 1) := ⟨f11, _, ok_L_same F11 nb2 hs0, PySem.W.mg_of X G a11, k11, b11⟩
  have hs2 : Has l.prog w K mg base 2 "_law_same" ["_law_found", "_law_due_here"] (spSame 2) := ⟨f11, _, ok_L_same F11 nb2 hs1, PySem.W.mg_of X G a11, k11, b11⟩
  have h_L_same : Has l.prog w K mg base 3 "_law_same" ["_law_found", "_law_due_here"] (spSame 3) := ⟨f11, _, ok_L_same F11 nb2 hs2, PySem.W.mg_of X G a11, k11, b11⟩
  exact ok_law F14 nb h_L_state h_L_take h_L_due h_L_same h_all_rows h_L_whole h_ref hE_all_rows hE_by_lengths rfl (PySem.W.codeHd_of_K kb ch) Bl efc0_ hic0_ kdc0_
theorem walk {l : PySem.W.OpenLaw} {q : Program} {loose : List Str} {XP : (Str → Option Value) → Heap → Prop} {YP : World → Heap → Prop} {d : DefRec} {K : Params → PySem.W.Frag} {T : Addr} (hn : l.most = some 63) (hdf : d.params.defaults = [])
    (hY : ∀ (w : World) (h : Heap), YP w h → (K w.params).In h ∧ h.get? T = some (PySem.W.tabObj #[]))
    (F : ∀ (w : World) (mg : Str → Option Value) (fa : Addr) (h : Heap), (K w.params).In h → h.Ns mainGlobals mg → mg d.name = some (.ref fa) →
      ∃ (fd : FuncData) (c : Addr), (∀ (s : Shared) (u : Value), BindsTo s fd ⟨[u], []⟩ [("_law_script", u)]) ∧ (K w.params).lookup T = none ∧ PySem.W.codeHdIn (K w.params) c T = true ∧ ∀ base : Heap, (K w.params).In base → base.Ns mainGlobals mg → BltAt mg base → FnOk l.prog w (K w.params) mg base CX0 7 fa fd ["_law_script"] (spLaw (K w.params) T)) :
    PySem.W.WalkO q loose XP YP l.row.toRowW d [] (fun f vs => PySem.call f vs) :=
  L2.walk_ofT (n := 63) (k := 7) (x := "_law_script") (sp := fun w => spLaw (K w.params) T) hn (by decide) hdf ⟨rfl, by decide, by decide⟩ hY F (fun _ _ a ns hl hT hS => ⟨a, ns, rfl, hS, hl, hT, fun _ => rfl⟩)
end K82
open PySem PySem.W PyProof.Rows
set_option maxRecDepth 100000 in
set_option maxHeartbeats 0 in
theorem PySem.Challenge.cw_boxballs_k82_all_rows_of_few_boxes_holds : PySem.Challenge.rw_boxballs_k82_all_rows_of_few_boxes.Holds := by
  w_on; o_law; k_head; (case hw => w_witness2)
  k_fill
  refine K82.walk (l := PySem.Challenge.rw_boxballs_k82_all_rows_of_few_boxes) rfl rfl (fun w h Y => ⟨PySem.W.km_in_of Y, PySem.W.km_tabs_of Y _ (.head _)⟩) ?F
  case F =>
    intro w mg fa h KX G hmg
    refine' K82.all_mk KX G hmg ?a1 ?l1 ?c1 ?k1 ?a2 ?l2 ?c2 ?k2 ?a3 ?l3 ?c3 ?k3 ?a4 ?l4 ?c4 ?k4 ?a5 ?l5 ?c5 ?k5 ?a6 ?l6 ?c6 ?k6 ?a7 ?l7 ?c7 ?k7 ?a8 ?l8 ?c8 ?k8 ?a9 ?l9 ?c9 ?k9 ?a10 ?l10 ?c10 ?k10 ?a11 ?l11 ?c11 ?k11 ?a12 ?l12 ?c12 ?k12 ?a13 ?l13 ?c13 ?k13 ?a14 ?l14 ?c14 ?k14 ?n1 ?e1 ?xb_ ?xc0_ ?xc1_ ?xc2_ ?xc3_ ?xc4_ ?lkb_ ?nob_ ?nib_ ?tlb_ ?cbb_ ?cvb_ ?lkc0_ ?noc0_ ?nic0_ ?tlc0_ ?cbc0_ ?cvc0_ ?g1c0_ ?g2c0_ ?g3c0_ ?g4c0_ ?g5c0_ ?q0c0_ ?q1c0_ ?q2c0_ ?q3c0_ ?q4c0_ ?qvc0_ ?hic0_ ?ch ?kt ?z1 ?z2 ?z3 ?z4 ?z5 ?z6 ?z7 ?z8 ?z9 ?z10 ?z11 ?z12 ?z13 ?z14 ?z15 ?z16 ?z17
    (case a1 => k_is)
    (case l1 => k_is)
    (case c1 => k_is)
    (case k1 => k_is)
    (case a2 => k_is)
    (case l2 => k_is)
    (case c2 => k_is)
    (case k2 => k_is)
    (case a3 => k_is)
    (case l3 => k_is)
    (case c3 => k_is)
    (case k3 => k_is)
    (case a4 => k_is)
    (case l4 => k_is)
    (case c4 => k_is)
    (case k4 => k_is)
    (case a5 => k_is)
    (case l5 => k_is)
    (case c5 => k_is)
    (case k5 => k_is)
    (case a6 => k_is)
    (case l6 => k_is)
    (case c6 => k_is)
    (case k6 => k_is)
    (case a7 => k_is)
    (case l7 => k_is)
    (case c7 => k_is)
    (case k7 => k_is)
    (case a8 => k_is)
    (case l8 => k_is)
    (case c8 => k_is)
    (case k8 => k_is)
    (case a9 => k_is)
    (case l9 => k_is)
    (case c9 => k_is)
    (case k9 => k_is)
    (case a10 => k_is)
    (case l10 => k_is)
    (case c10 => k_is)
    (case k10 => k_is)
    (case a11 => k_is)
    (case l11 => k_is)
    (case c11 => k_is)
    (case k11 => k_is)
    (case a12 => k_is)
    (case l12 => k_is)
    (case c12 => k_is)
    (case k12 => k_is)
    (case a13 => k_is)
    (case l13 => k_is)
    (case c13 => k_is)
    (case k13 => k_is)
    (case a14 => k_is)
    (case l14 => k_is)
    (case c14 => k_is)
    (case k14 => k_is)
    (case n1 => k_is)
    (case e1 => exact ⟨_, rfl⟩)
    (case xb_ => k_is)
    (case xc0_ => k_is)
    (case xc1_ => k_is)
    (case xc2_ => k_is)
    (case xc3_ => k_is)
    (case xc4_ => k_is)
    (case lkb_ => k_is)
    (case nob_ => kernel_rfl)
    (case nib_ => k_is)
    (case tlb_ => kernel_rfl)
    (case cbb_ => first | k_is | decide | rfl)
    (case cvb_ => first | k_is | decide | rfl)
    (case lkc0_ => k_is)
    (case noc0_ => kernel_rfl)
    (case nic0_ => k_is)
    (case tlc0_ => kernel_rfl)
    (case cbc0_ => first | k_is | decide | rfl)
    (case cvc0_ => first | k_is | decide | rfl)
    (case g1c0_ => k_is)
    (case g2c0_ => k_is)
    (case g3c0_ => k_is)
    (case g4c0_ => k_is)
    (case g5c0_ => k_is)
    (case q0c0_ => kernel_rfl)
    (case q1c0_ => kernel_rfl)
    (case q2c0_ => kernel_rfl)
    (case q3c0_ => kernel_rfl)
    (case q4c0_ => kernel_rfl)
    (case qvc0_ => kernel_rfl)
    (case hic0_ => first | k_is | decide | rfl)
    (case ch => kernel_rfl)
    (case kt => kernel_rfl)
    (case z1 => k_is)
    (case z2 => k_is)
    (case z3 => k_is)
    (case z4 => k_is)
    (case z5 => k_is)
    (case z6 => k_is)
    (case z7 => k_is)
    (case z8 => k_is)
    (case z9 => k_is)
    (case z10 => k_is)
    (case z11 => k_is)
    (case z12 => k_is)
    (case z13 => k_is)
    (case z14 => k_is)
    (case z15 => k_is)
    (case z16 => k_is)
    (case z17 => k_is)
