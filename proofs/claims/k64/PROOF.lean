import PyProof.Rows.All
import Wide.All
import OpenK.AllK
import Wide.FinOn
import Lean
import PyProof.EqAt
import PyProof.EqKinds
import PyProof.TupleCall
import PyProof.TupleOfGen
import PyProof.ListRange
import PyProof.Rows.ZipGen
import KE.KRevIter
import PyProof.NeKinds
import PyProof.CompUse
import KE.KDictSum
import PyProof.Rows.SortWalk
import PyProof.AttrMissHeap
import KE.KDictOf
import PyProof.StationsW
import PyProof.ExcClass2
import PyProof.ExcBaseAll.ValueError
import OpenK.KOwn
import PyProof.RulesAs
import PyProof.Rows.Catch
import PyProof.ExcAttrAll.ValueError
import KE.KIsAll
import PyProof.NsDelKeeps
import KE.KLam
import KE.KTupSum
import KE.KSortTup
import PyProof.SeqI3
import KE.KItemsList
import PyProof.TupleKey
import PyProof.DictRoadsH
import KE.KDictList
import PySem.Challenge.RW_boxballs_k64_rounds_of_all_rings
section
-- CHANGE: your row's module here, as the last of these rows
set_option Elab.async false
set_option linter.all false
set_option maxRecDepth 100000
/-! THE HAND LAYER, for ints, bools, texts, own classes, LISTS and tuples (index, slices, in, append, pop ..), calls, loops. Paste it whole ahead of your own text; what your proof does not reach may be deleted. -/
namespace L2
open PySem PySem.Spec PyProof.Rows

/-- a key: an int or a str -/
abbrev Key := Sum Int Str
def keyIs : Key → Value → Bool
  | .inl k, v => Value.isInt k v
  | .inr x, v => Value.isStrOf x v
def keyH (w : World) : Key → Int
  | .inl k => hashInt k
  | .inr x => hashStr w x
theorem keyIs_shape : ∀ {k : Key} {v : Value}, keyIs k v = true → (∃ i t, k = Sum.inl i ∧ v = Value.int i t) ∨ (∃ x t, k = Sum.inr x ∧ v = Value.str x t)
  | .inl i, v, h => by
    obtain ⟨t, e⟩ := Value.isInt_shape (k := i) (v := v) h
    exact .inl ⟨i, t, rfl, e⟩
  | .inr x, v, h => by
    obtain ⟨t, e⟩ := Value.isStrOf_shape (x := x) (v := v) h
    exact .inr ⟨x, t, rfl, e⟩
theorem keyIs_int (i : Int) (t : Tok) : keyIs (.inl i) (.int i t) = true := by simp [keyIs, Value.isInt]
theorem keyIs_str (x : Str) (t : Tok) : keyIs (.inr x) (.str x t) = true := by simp [keyIs, Value.isStrOf]
theorem key_ll (a b : Int) : decide ((Sum.inl a : Key) = Sum.inl b) = (a == b) := by
  by_cases e : a = b
  · subst e; simp
  · have h : ¬ (Sum.inl a : Key) = Sum.inl b := fun q => e (Sum.inl.inj q)
    rw [decide_eq_false h]
    exact (beq_eq_false_iff_ne.mpr e).symm
theorem key_rr (a b : Str) : decide ((Sum.inr a : Key) = Sum.inr b) = decide (a = b) := by
  by_cases e : a = b
  · subst e; simp
  · have h : ¬ (Sum.inr a : Key) = Sum.inr b := fun q => e (Sum.inr.inj q)
    rw [decide_eq_false h, decide_eq_false e]
theorem key_lr (a : Int) (b : Str) : decide ((Sum.inl a : Key) = Sum.inr b) = false := decide_eq_false (fun q => nomatch q)
theorem key_rl (a : Str) (b : Int) : decide ((Sum.inr a : Key) = Sum.inl b) = false := decide_eq_false (fun q => nomatch q)

def mixKind (prog : Program) (w : World) : PySem.KeyKind prog w Key where
  is := keyIs
  hash := keyH w
  inj := fun v a b ha hb => by
    rcases keyIs_shape ha with ⟨i, t, rfl, rfl⟩ | ⟨x, t, rfl, rfl⟩
    · rcases keyIs_shape hb with ⟨j, u, rfl, e⟩ | ⟨y, u, rfl, e⟩
      · injection e with e1 _; rw [e1]
      · exact nomatch e
    · rcases keyIs_shape hb with ⟨j, u, rfl, e⟩ | ⟨y, u, rfl, e⟩
      · exact nomatch e
      · injection e with e1 _; rw [e1]
  byValue := fun k v h => by
    rcases keyIs_shape h with ⟨i, t, rfl, rfl⟩ | ⟨x, t, rfl, rfl⟩ <;> rfl
  pyHash := fun hv h => by
    rcases keyIs_shape hv with ⟨i, t, rfl, rfl⟩ | ⟨x, t, rfl, rfl⟩
    · exact wpAny_pyHash_int h
    · exact wpAny_pyHash_str h
  eqBool := fun hu hv h => by
    rcases keyIs_shape hu with ⟨i, t, rfl, rfl⟩ | ⟨x, t, rfl, rfl⟩
    · rcases keyIs_shape hv with ⟨j, u, rfl, rfl⟩ | ⟨y, u, rfl, rfl⟩
      · rw [key_ll] at h; exact wpAny_eqBool_int h
      · rw [key_lr] at h; exact SeqAt.EqAt.int_str i t y u _ _ _ _ h
    · rcases keyIs_shape hv with ⟨j, u, rfl, rfl⟩ | ⟨y, u, rfl, rfl⟩
      · rw [key_rl] at h; exact SeqAt.EqAt.str_int x t j u _ _ _ _ h
      · rw [key_rr] at h; exact wpAny_eqBool_str h
  «strs» := fun k x t v h => by
    rcases keyIs_shape h with ⟨i, u, rfl, e⟩ | ⟨y, u, rfl, e⟩
    · exact nomatch e
    · injection e with e1 _
      subst e1
      cases v <;> rfl

theorem mixKind_int (prog : Program) (w : World) (i : Int) (t : Tok) : (mixKind prog w).is (.inl i) (.int i t) = true := keyIs_int i t
theorem mixKind_str (prog : Program) (w : World) (x : Str) (t : Tok) : (mixKind prog w).is (.inr x) (.str x t) = true := keyIs_str x t
end L2

namespace L2
open PySem PySem.Spec PyProof.Rows

/-- a value, without the heap -/
inductive V where
  | non | bl (b : Bool) | int (i : Int) | str (x : Str) | byt (b : Array UInt8) | flt (b : UInt64) | ref (a : Addr) | ty (n : String)
  deriving DecidableEq

def RelV : V → Value → Prop
  | .non, u => u = Value.none
  | .bl b, u => u = Value.bool b
  | .int i, u => ∃ t, u = Value.int i t
  | .str x, u => ∃ t, u = Value.str x t
  | .byt b, u => ∃ t, u = Value.bytes b t
  | .flt b, u => ∃ t, u = Value.float b t
  | .ref a, u => u = Value.ref a
  | .ty n, u => u = Value.type n

abbrev Vals : List V → List Value → Prop := Paired RelV
theorem Vals.length {xs : List V} {us : List Value} (r : Vals xs us) : xs.length = us.length := Paired.length r
theorem Vals.get : ∀ {xs : List V} {us : List Value} {i : Nat} {x : V}, Vals xs us → xs[i]? = some x → ∃ u, us[i]? = some u ∧ RelV x u
  | _, _, _, _, .nil, e => by simp at e
  | _, _, 0, _, .cons r _, e => by simp at e; subst e; exact ⟨_, rfl, r⟩
  | _, _, i + 1, x, .cons _ t, e => by
    obtain ⟨u, h1, h2⟩ := Vals.get (i := i) (x := x) t (by simpa using e)
    exact ⟨u, by simpa using h1, h2⟩
theorem Vals.set {x : V} {u : Value} (r : RelV x u) : ∀ {xs : List V} {us : List Value} (i : Nat), Vals xs us → Vals (xs.set i x) (us.set i u)
  | _, _, _, .nil => .nil
  | _, _, 0, .cons _ t => .cons r t
  | _, _, i + 1, .cons q t => .cons q (Vals.set r i t)
theorem Vals.append : ∀ {xs ys : List V} {us ws : List Value}, Vals xs us → Vals ys ws → Vals (xs ++ ys) (us ++ ws)
  | _, _, _, _, .nil, s => s
  | _, _, _, _, .cons r t, s => .cons r (Vals.append t s)
theorem Vals.take : ∀ {xs : List V} {us : List Value} (n : Nat), Vals xs us → Vals (xs.take n) (us.take n)
  | _, _, 0, _ => .nil
  | _, _, _ + 1, .nil => .nil
  | _, _, n + 1, .cons r t => .cons r (Vals.take n t)
theorem Vals.drop : ∀ {xs : List V} {us : List Value} (n : Nat), Vals xs us → Vals (xs.drop n) (us.drop n)
  | _, _, 0, r => r
  | _, _, _ + 1, .nil => .nil
  | _, _, n + 1, .cons _ t => Vals.drop n t
theorem Vals.none_of : ∀ {xs : List V} {us : List Value} {i : Nat}, Vals xs us → xs[i]? = none → us[i]? = none := fun {xs us i} r e => by
  have h1 := r.length
  have h2 : xs.length ≤ i := List.getElem?_eq_none_iff.mp e
  exact List.getElem?_eq_none_iff.mpr (by omega)

def RelO : Option V → Option Value → Prop
  | some v, some u => RelV v u
  | none, none => True
  | _, _ => False
def KV {κ : Type} : List (κ × V) → List (κ × Value) → Prop := Paired fun (p : κ × V) (q : κ × Value) => p.1 = q.1 ∧ RelV p.2 q.2

/-- a key of a dict (00_mix): an int or a text -/
def kV : Key → V
  | .inl i => .int i
  | .inr x => .str x

/-- what stands at a tracked address -/
inductive HO where
  /-- a list -/
  | lst (xs : List V)
  /-- a tuple (never changes) -/
  | tup (xs : List V)
  /-- a dict whose keys are ints and texts; one whose keys are tuples of ints and texts (the empty one is both) -/
  | dK (kvs : List (Key × V)) | dT (kvs : List (List Key × V))
  /-- a set of ints: its members, its size -/
  | set (S : Int → Bool) (n : Nat)
  /-- an instance of the class at C, its dict at dx, its attributes -/
  | ins (C dx : Addr) (fs : List (Str × V))
  /-- the dict of the instance at x -/
  | own (x : Addr)
  /-- the dict of an exception -/
  | xd (fs : List (Str × V))
  /-- a bound method, f of x -/
  | met (f x : Addr)
  /-- a range object lo, lo + 1, .. below hi -/
  | rng (lo hi : Int)
  /-- a thing that is known to the object (the script; a dict while a loop walks it): read, never written while it is so -/
  | frz (o : Obj) (u : HO)
  /-- a code object's table -/
  | tbl (ps : Array Value)
  /-- any other thing, by what is true of its one object (a def of one's own: SetO a S n := HO.ext fun h => ..) -/
  | ext (φ : Heap → Prop)

abbrev Hp := Addr → Option HO
def upd (H : Hp) (a : Addr) (o : HO) : Hp := fun b => if b = a then some o else H b
theorem upd_same {H : Hp} {a : Addr} {o : HO} : upd H a o a = some o := by unfold upd; rw [if_pos rfl]
theorem upd_ne {H : Hp} {a b : Addr} {o : HO} (h : b ≠ a) : upd H a o b = H b := by unfold upd; rw [if_neg h]
/-- two objects of different content stand apart -/
theorem ne_of {H : Hp} {a b : Addr} {o u : HO} (h : H a = some o) (h' : H b = some u) (d : o ≠ u) : a ≠ b := by
  intro e; subst e; rw [h] at h'; exact d (Option.some.inj h')
theorem ne_of_none {H : Hp} {a b : Addr} {o : HO} (h : H a = some o) (h' : H b = none) : a ≠ b := by
  intro e; subst e; rw [h] at h'; cases h'

section
variable (P : Program) (w : World)
def ObjOk (H : Hp) (h : Heap) (a : Addr) : HO → Prop
  | .lst xs => xs.length ≤ sizeLine ∧ ∃ (its : List Value) (n : Nat), Vals xs its ∧ h.get? a = some { cls := .type "list", data := .seq its.toArray n }
  | .tup xs => xs.length ≤ sizeLine ∧ ∃ its : List Value, Vals xs its ∧ IsTup h a its.toArray
  | .dK kvs => kvs.length ≤ sizeLine ∧ (a == sysModules) = false ∧ ∃ vs, KV kvs vs ∧ h.DictOf (mixKind P w) a vs
  | .dT kvs => kvs.length ≤ sizeLine ∧ (a == sysModules) = false ∧ ∃ xs : List (List Key × Addr × Value),
      Paired (fun (p : List Key × V) (q : List Key × Addr × Value) => p.1 = q.1 ∧ H q.2.1 = some (.tup (p.1.map kV)) ∧ RelV p.2 q.2.2) kvs xs ∧
      ∃ o es ep, h.get? a = some o ∧ o.ExactDict ∧ o.data = .dict es ep ∧ es.toList = xs.map (entryOfKey (tupleKind (mixKind P w))) ∧ (xs.map (·.1)).Nodup
  | .set S n => h.SetOf (intKind P w) a S n
  | .ins C dx fs => H dx = some (.own a) ∧ fs.length ≤ 1000 ∧ dx ≠ a ∧ h.get? a = some (PySem.W.instObj C dx) ∧
      ∃ mA, h.Ns1 dx mA ∧ (∀ f, RelO (fs.lookup f) (mA f)) ∧ PySem.Within mA (fs.map (·.1))
  | .own _ => ∃ o, h.get? a = some o
  | .xd fs => ∃ mA, h.Ns1 a mA ∧ ∀ f, RelO (fs.lookup f) (mA f)
  | .rng lo hi => ∃ t u v, h.get? a = some { cls := .type "range", data := .fields #[.int lo t, .int hi u, .int 1 v] }
  | .frz o u => h.get? a = some o ∧ ObjOk H h a u
  | .tbl ps => h.get? a = some { cls := .none, data := .fields ps }
  | .met f x => h.get? a = some (PySem.W.methodObj (.ref f) (.ref x))
  | .ext φ => φ h ∧ (∃ o, h.get? a = some o) ∧ ∀ h1 h2 : Heap, φ h1 → (∀ o, h1.get? a = some o → h2.get? a = some o) → φ h2
/-- the abstract heap is held -/
def HOk (H : Hp) (h : Heap) : Prop := ∀ a o, H a = some o → ObjOk P w H h a o
end

section
variable {P : Program} {w : World} {H H' : Hp} {h h' : Heap} {a : Addr} {o : HO}
theorem ObjOk.lt (x : ObjOk P w H h a o) : a < h.objs.size := by
  cases o with
  | lst xs => obtain ⟨_, _, _, _, e⟩ := x; exact Heap.lt_size e
  | tup xs => obtain ⟨_, _, _, p⟩ := x; exact p.lt
  | dK kvs => obtain ⟨_, _, _, _, o, _, _, e, _⟩ := x; exact Heap.lt_size e
  | dT kvs => obtain ⟨_, _, _, _, o, _, _, e, _⟩ := x; exact Heap.lt_size e
  | set S n => obtain ⟨o, _, _, _, e, _⟩ := x; exact Heap.lt_size e
  | ins C dx fs => obtain ⟨_, _, _, e, _⟩ := x; exact Heap.lt_size e
  | own y => obtain ⟨_, e⟩ := x; exact Heap.lt_size e
  | xd fs => obtain ⟨_, ⟨_, _, _, e, _⟩, _⟩ := x; exact Heap.lt_size e
  | rng lo hi => obtain ⟨_, _, _, e⟩ := x; exact Heap.lt_size e
  | frz ob u => obtain ⟨e, _⟩ := x; exact Heap.lt_size e
  | tbl ps => exact Heap.lt_size (show h.get? a = some _ from x)
  | met f y => exact Heap.lt_size (show h.get? a = some _ from x)
  | ext φ => obtain ⟨_, ⟨_, e⟩, _⟩ := x; exact Heap.lt_size e
theorem Paired.mapP {α β : Type} {F G : α → β → Prop} : ∀ {l₁ : List α} {l₂ : List β}, Paired F l₁ l₂ → (∀ a b, F a b → G a b) → Paired G l₁ l₂
  | _, _, .nil, _ => .nil
  | _, _, .cons r t, f => .cons (f _ _ r) (Paired.mapP t f)
/-- what an object's description leans on: its own object, its own dict, the tuples -/
theorem ObjOk.stay (x : ObjOk P w H h a o) (k : ∀ b u, (b = a ∨ H b = some (.own a)) → h.get? b = some u → h'.get? b = some u)
    (ho : ∀ b, H b = some (.own a) → H' b = some (.own a)) (ht : ∀ b xs, H b = some (.tup xs) → H' b = some (.tup xs)) : ObjOk P w H' h' a o := by
  induction o with
  | lst xs => obtain ⟨z, its, n, r, e⟩ := x; exact ⟨z, its, n, r, k _ _ (.inl rfl) e⟩
  | tup xs => obtain ⟨z, its, r, ob, e, c⟩ := x; exact ⟨z, its, r, ob, k _ _ (.inl rfl) e, c⟩
  | dK kvs => obtain ⟨z, y, vs, r, ob, es, ep, e, c⟩ := x; exact ⟨z, y, vs, r, ob, es, ep, k _ _ (.inl rfl) e, c⟩
  | dT kvs =>
    obtain ⟨z, y, xs, r, ob, es, ep, e, c⟩ := x
    exact ⟨z, y, xs, Paired.mapP r fun p q z => ⟨z.1, ht _ _ z.2.1, z.2.2⟩, ob, es, ep, k _ _ (.inl rfl) e, c⟩
  | set S n => obtain ⟨ob, es, ep, t, e, c⟩ := x; exact ⟨ob, es, ep, t, k _ _ (.inl rfl) e, c⟩
  | ins C dx fs =>
    obtain ⟨d, z, ne, e, mA, ⟨od, es, ep, e2, c⟩, r⟩ := x
    exact ⟨ho _ d, z, ne, k _ _ (.inl rfl) e, mA, ⟨od, es, ep, k _ _ (.inr d) e2, c⟩, r⟩
  | own y => obtain ⟨ob, e⟩ := x; exact ⟨ob, k _ _ (.inl rfl) e⟩
  | xd fs => obtain ⟨mA, ⟨od, es, ep, e, c⟩, r⟩ := x; exact ⟨mA, ⟨od, es, ep, k _ _ (.inl rfl) e, c⟩, r⟩
  | rng lo hi => obtain ⟨t, u, v, e⟩ := x; exact ⟨t, u, v, k _ _ (.inl rfl) e⟩
  | frz ob u ih => obtain ⟨e, q⟩ := x; exact ⟨k _ _ (.inl rfl) e, ih q⟩
  | tbl ps =>
    have e : h.get? a = some { cls := .none, data := .fields ps } := x
    show h'.get? a = some { cls := .none, data := .fields ps }
    exact k a _ (.inl rfl) e
  | met f y =>
    have e : h.get? a = some (PySem.W.methodObj (.ref f) (.ref y)) := x
    show h'.get? a = some (PySem.W.methodObj (.ref f) (.ref y))
    exact k a _ (.inl rfl) e
  | ext φ => obtain ⟨p, ⟨o, e⟩, st⟩ := x; exact ⟨st _ _ p fun o q => k _ _ (.inl rfl) q, ⟨o, k _ _ (.inl rfl) e⟩, st⟩
theorem HOk.lt (x : HOk P w H h) (e : H a = some o) : a < h.objs.size := (x a o e).lt
theorem HOk.fresh (x : HOk P w H h) (e : h.objs.size ≤ a) : H a = none := by
  cases q : H a with
  | none => rfl
  | some u => exact absurd (Nat.lt_of_lt_of_le (x.lt q) e) (Nat.lt_irrefl _)
/-- every object of the heap is kept -/
theorem HOk.kept (x : HOk P w H h) (k : ∀ b u, h.get? b = some u → h'.get? b = some u) : HOk P w H h' := fun a o e =>
  (x a o e).stay (fun b u _ q => k b u q) (fun _ q => q) fun _ _ q => q
/-- a new object is laid and tracked -/
theorem HOk.laid (x : HOk P w H h) (k : ∀ b u, h.get? b = some u → h'.get? b = some u) (hp : h.objs.size ≤ a) (new : ObjOk P w (upd H a o) h' a o) : HOk P w (upd H a o) h' := fun b u e => by
  have hn := x.fresh hp
  by_cases hb : b = a
  · subst hb; rw [upd_same] at e; cases e; exact new
  · rw [upd_ne hb] at e
    exact (x b u e).stay (fun c v _ q => k c v q) (fun c q => by rw [upd_ne (ne_of_none q hn)]; exact q) fun c xs q => by rw [upd_ne (ne_of_none q hn)]; exact q
end

/-- what may be read as u: it is u, or a known u -/
def Rd (H : Hp) (a : Addr) (u : HO) : Prop := H a = some u ∨ ∃ o, H a = some (.frz o u)
theorem Rd.of {H : Hp} {a : Addr} {u : HO} (h : H a = some u) : Rd H a u := .inl h
theorem Rd.ok {P : Program} {w : World} {H : Hp} {h : Heap} {a : Addr} {u : HO} (r : Rd H a u) (x : HOk P w H h) : ObjOk P w H h a u := by
  rcases r with r | ⟨o, r⟩
  · exact x a u r
  · obtain ⟨_, q⟩ := x a _ r
    exact q
/-- what may be written -/
def Mut : Option HO → Prop
  | some (.lst _) => True
  | some (.dK _) => True
  | some (.dT _) => True
  | some (.set _ _) => True
  | some (.ins _ _ _) => True
  | some (.ext _) => True
  | _ => False
section
variable {P : Program} {w : World} {H : Hp} {h h' : Heap} {x e : Addr} {o' : HO}
/-- the object at e is changed: x itself, or the dict of the instance x -/
theorem HOk.write (ok : HOk P w H h) (mu : Mut (H x)) (he : e = x ∨ H e = some (.own x)) (k : ∀ b u, b ≠ e → h.get? b = some u → h'.get? b = some u) (heo : ∃ u, h'.get? e = some u)
    (new : ObjOk P w (upd H x o') h' x o') : HOk P w (upd H x o') h' := fun b u q => by
  have nown : ∀ c y, H c = some (.own y) → c ≠ x := fun c y r z => by subst z; rw [r] at mu; exact mu
  have ntup : ∀ c xs, H c = some (.tup xs) → c ≠ x := fun c xs r z => by subst z; rw [r] at mu; exact mu
  by_cases hb : b = x
  · subst hb; rw [upd_same] at q; cases q; exact new
  · rw [upd_ne hb] at q
    by_cases hbe : b = e
    · have q' : H b = some (.own x) := by
        rcases he with z | z
        · exact absurd (hbe.trans z) hb
        · rw [hbe]; exact z
      rw [q] at q'; cases q'
      obtain ⟨v, hv⟩ := heo
      exact ⟨v, by rw [hbe]; exact hv⟩
    · refine (ok b u q).stay (fun c v hc r => k c v ?_ r) (fun c r => by rw [upd_ne (nown c b r)]; exact r) fun c xs r => by rw [upd_ne (ntup c xs r)]; exact r
      rcases hc with rfl | hc
      · exact hbe
      · rintro rfl
        rcases he with z | z
        · exact nown c b hc z
        · rw [hc] at z; cases z; exact hb rfl
end

/-! ### kept unless tracked; of the frames at fs (the callers') the slots may change (an exception that passes writes there); of the records at ex (iterators) nothing is said -/
structure Un (fs ex : List Addr) (H H' : Hp) (h h' : Heap) : Prop where
  keep : ∀ b o, h.get? b = some o → H b = none → b ∉ fs → b ∉ ex → h'.get? b = some o
  slot : ∀ b o, h.get? b = some o → H b = none → b ∈ fs → b ∉ ex → ∃ sl, h'.get? b = some { o with slots := sl }
  free : ∀ b o, h.get? b = some o → H b = none → b ∉ ex → H' b = none
  there : ∀ b o, h.get? b = some o → b ∉ ex → ∃ o', h'.get? b = some o'
  tups : ∀ b xs, H b = some (.tup xs) → H' b = some (.tup xs)
  frzs : ∀ b o u, H b = some (.frz o u) → H' b = some (.frz o u)
  tbls : ∀ b ps, H b = some (.tbl ps) → ∃ more, H' b = some (.tbl (ps ++ more))
section
variable {fs fs' ex ex' : List Addr} {H H1 H2 : Hp} {h h1 h2 h' : Heap} {a x e : Addr} {o : HO}
theorem Un.any (u : Un fs ex H H1 h h1) {b : Addr} {ob : Obj} (q : h.get? b = some ob) (n : H b = none) (hx : b ∉ ex) : ∃ sl, h1.get? b = some { ob with slots := sl } := by
  by_cases hb : b ∈ fs
  · exact u.slot b ob q n hb hx
  · exact ⟨ob.slots, u.keep b ob q n hb hx⟩
theorem Un.trans (a : Un fs ex H H1 h h1) (b : Un fs ex H1 H2 h1 h2) : Un fs ex H H2 h h2 where
  keep := fun c ob q n hc hx => b.keep c ob (a.keep c ob q n hc hx) (a.free c ob q n hx) hc hx
  slot := fun c ob q n hc hx => by
    obtain ⟨sl, e1⟩ := a.slot c ob q n hc hx
    obtain ⟨sl', e2⟩ := b.slot c _ e1 (a.free c ob q n hx) hc hx
    exact ⟨sl', e2⟩
  free := fun c ob q n hx => by
    obtain ⟨o', e1⟩ := a.there c ob q hx
    exact b.free c o' e1 (a.free c ob q n hx) hx
  there := fun c ob q hx => by
    obtain ⟨o', e1⟩ := a.there c ob q hx
    exact b.there c o' e1 hx
  tups := fun c xs q => b.tups c xs (a.tups c xs q)
  frzs := fun c ob xs q => b.frzs c ob xs (a.frzs c ob xs q)
  tbls := fun c ps q => by
    obtain ⟨m1, e1⟩ := a.tbls c ps q
    obtain ⟨m2, e2⟩ := b.tbls c _ e1
    exact ⟨m1 ++ m2, by rw [e2, Array.append_assoc]⟩
theorem Un.kept (k : ∀ b u, h.get? b = some u → h'.get? b = some u) : Un fs ex H H h h' :=
  ⟨fun b ob q _ _ _ => k b ob q, fun b ob q _ _ _ => ⟨ob.slots, k b ob q⟩, fun _ _ _ n _ => n, fun b ob q _ => ⟨ob, k b ob q⟩, fun _ _ q => q, fun _ _ _ q => q, fun _ ps q => ⟨#[], by rw [q]; simp⟩⟩
theorem Un.refl : Un fs ex H H h h := Un.kept fun _ _ q => q
theorem Un.laid (k : ∀ b u, h.get? b = some u → h'.get? b = some u) (hp : h.objs.size ≤ a) (hn : H a = none) : Un fs ex H (upd H a o) h h' where
  keep := fun b u q _ _ _ => k b u q
  slot := fun b u q _ _ _ => ⟨u.slots, k b u q⟩
  free := fun b u q n _ => by rw [upd_ne (Nat.ne_of_lt (Nat.lt_of_lt_of_le (Heap.lt_size q) hp))]; exact n
  there := fun b u q _ => ⟨u, k b u q⟩
  tups := fun b xs q => by rw [upd_ne (ne_of_none q hn)]; exact q
  frzs := fun b u xs q => by rw [upd_ne (ne_of_none q hn)]; exact q
  tbls := fun b ps q => ⟨#[], by rw [upd_ne (ne_of_none q hn), q]; simp⟩
theorem Un.write (mu : Mut (H x)) (he : e = x ∨ H e = some (.own x)) (k : ∀ b u, b ≠ e → h.get? b = some u → h'.get? b = some u) (heo : ∃ u, h'.get? e = some u) : Un fs ex H (upd H x o) h h' := by
  have hx : ∀ b, H b = none → b ≠ x := fun b n z => by subst z; rw [n] at mu; exact mu
  have hb : ∀ b, H b = none → b ≠ e := fun b n z => by
    subst z
    rcases he with r | r
    · exact hx b n r
    · rw [n] at r; cases r
  have hm : ∀ b u, H b = some u → ¬ Mut (some u) → b ≠ x := fun b u q nm z => by subst z; rw [q] at mu; exact nm mu
  refine ⟨fun b u q n _ _ => k b u (hb b n) q, fun b u q n _ _ => ⟨u.slots, k b u (hb b n) q⟩, fun b u q n _ => by rw [upd_ne (hx b n)]; exact n, fun b u q _ => ?_,
    fun b xs q => by rw [upd_ne (hm b _ q fun z => z)]; exact q, fun b u xs q => by rw [upd_ne (hm b _ q fun z => z)]; exact q, fun b ps q => ⟨#[], by rw [upd_ne (hm b _ q fun z => z), q]; simp⟩⟩
  by_cases hbe : b = e
  · subst hbe; exact heo
  · exact ⟨u, k b u hbe q⟩
theorem Un.mono (u : Un fs ex H H1 h h1) (hs : ∀ b ∈ fs, b ∈ fs') (hx : ∀ b ∈ ex, b ∈ ex') : Un fs' ex' H H1 h h1 :=
  ⟨fun b ob q n hb he => u.keep b ob q n (fun z => hb (hs b z)) fun z => he (hx b z), fun _ _ q n _ he => u.any q n fun z => he (hx _ z), fun b ob q n he => u.free b ob q n fun z => he (hx b z), fun b ob q he => u.there b ob q fun z => he (hx b z), u.tups, u.frzs, u.tbls⟩
end

/-! ### the heap without what is tracked -/
def trk (h : Heap) (H : Hp) : List Addr := (List.range h.objs.size).filter fun a => (H a).isSome
/-! ### OpenK's ledger, filled with every new object but one -/
def allNews (g h : Heap) (L : Addr) : List (Addr × Obj) := (List.range h.objs.size).filterMap fun a => if a = L ∨ (g.get? a).isSome = true then none else (h.get? a).map fun o => (a, o)
def rest (g h : Heap) (L d : Addr) : List (Addr × Obj) := (allNews g h L).filter fun p => decide (p.1 ≠ d)
end L2

namespace L2
open PySem PySem.Spec PyProof.Rows

/-- the module's facts, over the base: the heap at the law's entry without what is tracked there -/
structure Mod (K : PySem.W.Frag) (mg : Str → Option Value) (base : Heap) : Prop where
  kin : K.In base
  glob : base.Ns mainGlobals mg
  blt : ∃ mb, base.Ns builtinsNs mb ∧ ∀ x : Str, x ≠ "__name__" → mb x = bootBuiltins x
  nolimit : base.NoLimit

/-- the context: a def's body (or a comprehension's block) running. base: fixed through the whole law; s₀, H₀: the entry; outer: the frames whose slots others may change (a def's callers); stack: all frames that run;
   ex: iterators that were made ahead of the entry and are walked here (a comprehension's); fn: the names whose cells were made at the entry (a def: all; a comprehension's block: its own); calm: not within an except suite; pn: pins that every state bears; xe: what is wanted of an exception that leaves the code -/
structure Cx where
  prog : Program
  w : World
  K : PySem.W.Frag
  mg : Str → Option Value
  base : Heap
  A : Around
  N : List Str
  s₀ : Shared
  H₀ : Hp
  env : Env
  outer : List Env
  stack : List Env
  ex : List Addr
  fn : Str → Bool
  calm : Bool
  pn : List (Addr × Obj)
  xe : Value → Shared → Prop
/-- the callers' frames -/
def frs (l : List Env) : List Addr := l.filterMap (·.frame)
abbrev Cx.fs (X : Cx) : List Addr := frs X.outer

def Vis (sc : Scope) (x : Str) : Prop := sc.names.lookup x = some .local ∨ sc.names.lookup x = some .cell ∨ sc.names.lookup x = some .free
def Loc (sc : Scope) (x : Str) : Prop := sc.names.lookup x = some .local ∨ sc.names.lookup x = some .cell
def Look (env : Env) (h : Heap) (m : Str → Option Value) (x : Str) (u : Value) : Prop :=
  (env.kindOf x = some .local ∧ m x = some u) ∨ ((env.kindOf x = some .cell ∨ env.kindOf x = some .free) ∧ ∃ c, env.cells.lookup x = some c ∧ h.IsCell c (some u))

structure Cx.Ok (X : Cx) : Prop where
  mod : Mod X.K X.mg X.base
  kind : X.env.scope.kind = .function
  glob : X.env.globals = mainGlobals
  blt : X.env.builtins = builtinsNs
  above : X.s₀.heap.objs.size ≤ X.env.locals
  inj : ∀ x y c, X.env.cells.lookup x = some c → X.env.cells.lookup y = some c → x = y
  has : ∀ x, (X.env.kindOf x = some .cell ∨ X.env.kindOf x = some .free) → ∃ c, X.env.cells.lookup x = some c
  cab : ∀ x c, X.fn x = true → X.env.cells.lookup x = some c → X.s₀.heap.objs.size ≤ c
  hd : X.calm = true → X.A.handled = none
  frames : X.A.frames = some X.stack
  stk : X.stack = X.outer ∨ (X.stack = X.env :: X.outer ∧ X.env.frame = some X.env.locals)
  exf : ∀ b ∈ X.ex, b ≠ X.env.locals ∧ ∀ x c, X.env.cells.lookup x = some c → c ≠ b
  bs : ∀ b o, X.base.get? b = some o → X.s₀.heap.get? b = some o ∧ X.H₀ b = none
  bsz : X.base.objs.size ≤ X.s₀.heap.objs.size
  noex : ∀ b o, X.base.get? b = some o → b ∉ X.ex
  exfs : ∀ b ∈ X.ex, b ∉ X.fs
  funs : X.s₀.heap.FunFrames X.base X.outer
  frf : ∀ b ∈ X.fs, X.H₀ b = none

structure Inv (X : Cx) (pins : List (Addr × Obj)) (σ : List (Option V)) (H : Hp) (s : Shared) : Prop where
  ok : X.Ok
  os : s.os = X.s₀.os
  bare : AllBare s.gens
  base : Un X.fs X.ex X.H₀ H X.s₀.heap s.heap
  loc : ∃ m, s.heap.Ns X.env.locals m ∧ ∀ (i : Nat) (x : Str) (v : V), X.N[i]? = some x → σ[i]? = some (some v) → Vis X.env.scope x → ∃ u, RelV v u ∧ Look X.env s.heap m x u
  cell : ∀ x c, X.env.cells.lookup x = some c → ∃ v, s.heap.IsCell c v
  free : H X.env.locals = none
  freeC : ∀ x c, X.env.cells.lookup x = some c → H c = none
  pin : ∀ p ∈ X.pn ++ pins, s.heap.get? p.1 = some p.2 ∧ H p.1 = none ∧ p.1 ≠ X.env.locals ∧ p.1 ∉ X.fs ∧ ∀ v, p.2.data ≠ .cell v
  hok : HOk X.prog X.w H s.heap
  len : σ.length = X.N.length

section
variable {X : Cx} {pins : List (Addr × Obj)} {σ : List (Option V)} {H H' : Hp} {s : Shared} {h' : Heap}

theorem Cx.Ok.nofr (ok : X.Ok) {b : Addr} {o : Obj} (e : X.base.get? b = some o) : b ∉ X.fs := fun hb => by
  have := (ok.funs.mem hb).1
  rw [e] at this; cases this
theorem Inv.bs (I : Inv X pins σ H s) : ∀ b o, X.base.get? b = some o → s.heap.get? b = some o ∧ H b = none := fun b o e =>
  ⟨I.base.keep b o (I.ok.bs b o e).1 (I.ok.bs b o e).2 (I.ok.nofr e) (I.ok.noex b o e), I.base.free b o (I.ok.bs b o e).1 (I.ok.bs b o e).2 (I.ok.noex b o e)⟩
theorem Inv.bk (I : Inv X pins σ H s) : ∀ b o, X.base.get? b = some o → s.heap.get? b = some o := fun b o e => (I.bs b o e).1
theorem Inv.mod (I : Inv X pins σ H s) : Mod X.K X.mg X.base := I.ok.mod
theorem Inv.kIn (I : Inv X pins σ H s) : X.K.In s.heap := I.ok.mod.kin.keeps I.bk
theorem Inv.nolimit (I : Inv X pins σ H s) : s.heap.NoLimit := I.ok.mod.nolimit.keeps I.bk
/-- the frame over the base: for OpenK's rules (K.In X.base is I.mod.kin) -/
theorem Inv.fr (I : Inv X pins σ H s) : ∃ m, Fr X.base X.env.locals s.heap m :=
  let ⟨m, hn, _⟩ := I.loc
  ⟨m, hn, I.bk, Nat.le_trans I.ok.bsz I.ok.above⟩
theorem Inv.lt (I : Inv X pins σ H s) : X.env.locals < s.heap.objs.size := let ⟨_, hn, _⟩ := I.loc; hn.lt
theorem Inv.sz (I : Inv X pins σ H s) : X.s₀.heap.objs.size ≤ s.heap.objs.size := Nat.le_trans I.ok.above (Nat.le_of_lt I.lt)
theorem Inv.nofs (I : Inv X pins σ H s) {a : Addr} (h : s.heap.objs.size ≤ a) : a ∉ X.fs := fun hb => by
  obtain ⟨_, o, ho, _⟩ := I.ok.funs.mem hb
  exact absurd (Nat.lt_of_lt_of_le (Heap.lt_size ho) (Nat.le_trans I.sz h)) (Nat.lt_irrefl _)
theorem Inv.cne (I : Inv X pins σ H s) : ∀ x c, X.env.cells.lookup x = some c → c ≠ X.env.locals := fun x c e z => by
  obtain ⟨v, o, ho, hd⟩ := I.cell x c e
  obtain ⟨m, ⟨o', es, ep, ho', hd', _⟩, _⟩ := I.loc
  rw [z, ho'] at ho; cases ho; rw [hd'] at hd; cases hd
theorem Inv.funs (I : Inv X pins σ H s) : s.heap.FunFrames X.base X.outer := by
  have all : ∀ (l : List Env), (∀ b ∈ frs l, b ∈ X.fs) → X.s₀.heap.FunFrames X.base l → s.heap.FunFrames X.base l := by
    intro l
    induction l with
    | nil => intro _ _; trivial
    | cons env r ih =>
      intro hs hl
      obtain ⟨hk, ⟨L, o, hf, hn, ho, hd⟩, hr⟩ := hl
      have hL : L ∈ X.fs := hs L (by unfold frs; rw [List.filterMap_cons, hf]; exact List.mem_cons_self)
      obtain ⟨sl, e⟩ := I.base.slot L o ho (I.ok.frf L hL) hL fun z => I.ok.exfs L z hL
      exact ⟨hk, ⟨L, _, hf, hn, e, hd⟩, ih (fun b hb => hs b (by unfold frs; rw [List.filterMap_cons, hf]; exact List.mem_cons_of_mem _ hb)) hr⟩
  exact all X.outer (fun _ hb => hb) I.ok.funs

/-- the frames that run, for a call -/
theorem Inv.stack (I : Inv X pins σ H s) : s.heap.FunFrames X.base X.stack := by
  rcases I.ok.stk with e | ⟨e, hf⟩
  · rw [e]; exact I.funs
  · rw [e]
    obtain ⟨m, hn, _⟩ := I.loc
    refine .cons (by rw [I.ok.kind]; decide) hf hn ?_ I.funs
    exact Heap.get?_none_of_le (Nat.le_trans I.ok.bsz I.ok.above)
theorem Inv.stkSub (I : Inv X pins σ H s) : ∀ b ∈ frs X.stack, b ∈ X.env.locals :: X.fs := fun b hb => by
  rcases I.ok.stk with e | ⟨e, hf⟩
  · rw [e] at hb; exact List.mem_cons_of_mem _ hb
  · rw [e] at hb
    unfold frs at hb
    rw [List.filterMap_cons, hf] at hb
    exact hb
theorem Inv.stkFree (I : Inv X pins σ H s) : ∀ b ∈ frs X.stack, H b = none := fun b hb => by
  rcases List.mem_cons.mp (I.stkSub b hb) with e | hb
  · rw [e]; exact I.free
  · obtain ⟨_, o, ho, _⟩ := I.ok.funs.mem hb
    exact I.base.free b o ho (I.ok.frf b hb) fun z => I.ok.exfs b z hb

/-- THE STEP: the untracked objects but the frame and the records at ch are kept (the callers' frames up to slots), the frame's map is kept, the new abstract heap is held -/
theorem Inv.step {g' : Array GenState} {t' : Nat} {d' : Drawn} {ch : List Addr} (I : Inv X pins σ H s)
    (hch : ∀ b ∈ ch, (b ∈ X.ex ∨ X.s₀.heap.objs.size ≤ b) ∧ b ≠ X.env.locals ∧ (∀ x c, X.env.cells.lookup x = some c → c ≠ b) ∧ ∀ p ∈ X.pn ++ pins, p.1 ≠ b)
    (keep : ∀ b o, b ≠ X.env.locals → b ∉ X.fs → b ∉ ch → s.heap.get? b = some o → H b = none → h'.get? b = some o)
    (slot : ∀ b o, b ≠ X.env.locals → b ∈ X.fs → b ∉ ch → s.heap.get? b = some o → H b = none → ∃ sl, h'.get? b = some { o with slots := sl }) (free : ∀ b o, b ∉ ch → s.heap.get? b = some o → H b = none → H' b = none)
    (there : ∀ b o, b ∉ ch → s.heap.get? b = some o → ∃ o', h'.get? b = some o')
    (tups : ∀ b xs, H b = some (.tup xs) → H' b = some (.tup xs)) (frzs : ∀ b o u, H b = some (.frz o u) → H' b = some (.frz o u)) (tbls : ∀ b ps, H b = some (.tbl ps) → ∃ more, H' b = some (.tbl (ps ++ more)))
    (ns : ∀ m, s.heap.Ns X.env.locals m → h'.Ns X.env.locals m) (hok : HOk X.prog X.w H' h') (hg : AllBare g') :
    Inv X pins σ H' { s with heap := h', gens := g', drawn := d', toks := t' } := by
  have neL : ∀ b o, X.s₀.heap.get? b = some o → b ≠ X.env.locals := fun b o e => Nat.ne_of_lt (Nat.lt_of_lt_of_le (Heap.lt_size e) I.ok.above)
  have neC : ∀ b o, X.s₀.heap.get? b = some o → b ∉ X.ex → b ∉ ch := fun b o e hx hb => by
    rcases (hch b hb).1 with z | z
    · exact hx z
    · exact absurd (Nat.lt_of_lt_of_le (Heap.lt_size e) z) (Nat.lt_irrefl _)
  have cellK : ∀ x c, X.env.cells.lookup x = some c → ∀ v, s.heap.IsCell c v → h'.IsCell c v := fun x c e v ⟨o, ho, hd⟩ => by
    have nch : c ∉ ch := fun z => (hch c z).2.2.1 x c e rfl
    by_cases hc : c ∈ X.fs
    · obtain ⟨sl, q⟩ := slot c o (I.cne x c e) hc nch ho (I.freeC x c e)
      exact ⟨_, q, hd⟩
    · exact ⟨o, keep c o (I.cne x c e) hc nch ho (I.freeC x c e), hd⟩
  refine ⟨I.ok, I.os, hg, ⟨fun b o e n hb hx => ?_, fun b o e n hb hx => ?_, fun b o e n hx => ?_, fun b o e hx => ?_, fun b xs e => tups b xs (I.base.tups b xs e), fun b o xs e => frzs b o xs (I.base.frzs b o xs e), fun b ps e => ?_⟩, ?_, fun x c e => ?_, ?_, fun x c e => ?_, fun p hp => ?_, hok, I.len⟩
  · exact keep b o (neL b o e) hb (neC b o e hx) (I.base.keep b o e n hb hx) (I.base.free b o e n hx)
  · obtain ⟨sl, e1⟩ := I.base.slot b o e n hb hx
    obtain ⟨sl', e2⟩ := slot b _ (neL b o e) hb (neC b o e hx) e1 (I.base.free b o e n hx)
    exact ⟨sl', e2⟩
  · obtain ⟨o', e1⟩ := I.base.there b o e hx
    exact free b o' (neC b o e hx) e1 (I.base.free b o e n hx)
  · obtain ⟨o', e1⟩ := I.base.there b o e hx
    exact there b o' (neC b o e hx) e1
  · obtain ⟨m1, e1⟩ := I.base.tbls b ps e
    obtain ⟨m2, e2⟩ := tbls b _ e1
    exact ⟨m1 ++ m2, by rw [e2, Array.append_assoc]⟩
  · obtain ⟨m, hn, hl⟩ := I.loc
    refine ⟨m, ns m hn, fun i x v e1 e2 e3 => ?_⟩
    obtain ⟨u, r, l⟩ := hl i x v e1 e2 e3
    refine ⟨u, r, ?_⟩
    rcases l with l | ⟨k, c, e, z⟩
    · exact .inl l
    · exact .inr ⟨k, c, e, cellK x c e _ z⟩
  · obtain ⟨v, z⟩ := I.cell x c e
    exact ⟨v, cellK x c e v z⟩
  · obtain ⟨m, ⟨o, _, _, ho, _⟩, _⟩ := I.loc
    exact free _ o (fun z => (hch _ z).2.1 rfl) ho I.free
  · obtain ⟨v, o, ho, hd⟩ := I.cell x c e
    exact free c o (fun z => (hch c z).2.2.1 x c e rfl) ho (I.freeC x c e)
  · obtain ⟨e, n, ne, nf, d⟩ := I.pin p hp
    have nch : p.1 ∉ ch := fun z => (hch p.1 z).2.2.2 p hp rfl
    exact ⟨keep p.1 p.2 ne nf nch e n, free p.1 p.2 nch e n, ne, nf, d⟩
/-- .. where the frame's own object is kept too -/
theorem Inv.un {t' : Nat} (I : Inv X pins σ H s) (u : Un X.fs [] H H' s.heap h') (hok : HOk X.prog X.w H' h') : Inv X pins σ H' { s with heap := h', toks := t' } := by
  obtain ⟨m, ⟨o, es, ep, ho, r⟩, _⟩ := id I.loc
  obtain ⟨sl, hL⟩ := u.any ho I.free (by simp)
  exact I.step (g' := s.gens) (d' := s.drawn) (ch := []) (fun _ z => nomatch z) (fun b o _ hb _ e n => u.keep b o e n hb (by simp)) (fun b o _ hb _ e n => u.slot b o e n hb (by simp)) (fun b o _ e n => u.free b o e n (by simp)) (fun b o _ e => u.there b o e (by simp)) u.tups u.frzs u.tbls (fun m' hm => by
    obtain ⟨o', es', ep', ho', r'⟩ := hm
    rw [ho] at ho'; cases ho'
    exact ⟨_, es', ep', hL, r'⟩) hok I.bare
/-- behind a call (or a comprehension's block): the slots of this frame may have changed too, the records at ch may have turned -/
theorem Inv.call {g' : Array GenState} {t' : Nat} {d' : Drawn} {ch : List Addr} (I : Inv X pins σ H s) (u : Un (frs X.stack) ch H H' s.heap h') (hok : HOk X.prog X.w H' h') (hg : AllBare g')
    (hch : ∀ b ∈ ch, (b ∈ X.ex ∨ X.s₀.heap.objs.size ≤ b) ∧ b ≠ X.env.locals ∧ (∀ x c, X.env.cells.lookup x = some c → c ≠ b) ∧ ∀ p ∈ X.pn ++ pins, p.1 ≠ b) :
    Inv X pins σ H' { s with heap := h', gens := g', drawn := d', toks := t' } := by
  obtain ⟨m, ⟨o, es, ep, ho, r⟩, _⟩ := id I.loc
  obtain ⟨sl, hL⟩ := u.any ho I.free fun z => (hch _ z).2.1 rfl
  exact I.step (ch := ch) hch (fun b o hL hb hc e n => u.keep b o e n (fun z => (List.mem_cons.mp (I.stkSub b z)).elim hL hb) hc) (fun b o _ _ hc e n => u.any e n hc) (fun b o hc e n => u.free b o e n hc) (fun b o hc e => u.there b o e hc) u.tups u.frzs u.tbls (fun m' hm => by
    obtain ⟨o', es', ep', ho', r'⟩ := hm
    rw [ho] at ho'; cases ho'
    exact ⟨_, es', ep', hL, r'⟩) hok hg
/-- an untracked record of ours (an iterator) has turned -/
theorem Inv.turned {t' : Nat} {it : Addr} (I : Inv X pins σ H s) (k : ∀ b o, b ≠ it → s.heap.get? b = some o → h'.get? b = some o) (hn : H it = none) (hL : it ≠ X.env.locals)
    (h1 : it ∈ X.ex ∨ X.s₀.heap.objs.size ≤ it) (h2 : ∀ x c, X.env.cells.lookup x = some c → c ≠ it) (h3 : ∀ p ∈ X.pn ++ pins, p.1 ≠ it) : Inv X pins σ H { s with heap := h', toks := t' } := by
  have nit : ∀ b u, H b = some u → b ≠ it := fun b u e z => by rw [z, hn] at e; cases e
  refine I.step (g' := s.gens) (d' := s.drawn) (ch := [it]) (fun b hb => ?_) (fun b o _ _ hc e _ => k b o (fun z => hc (by simp [z])) e) (fun b o _ _ hc e _ => ⟨o.slots, k b o (fun z => hc (by simp [z])) e⟩) (fun _ _ _ _ n => n)
    (fun b o hc e => ⟨o, k b o (fun z => hc (by simp [z])) e⟩) (fun _ _ e => e) (fun _ _ _ e => e) (fun b ps e => ⟨#[], by rw [e]; simp⟩) (fun m hm => ?_) (fun b u e => ?_) I.bare
  · have e : b = it := by simpa using hb
    subst e
    exact ⟨h1, hL, h2, h3⟩
  · obtain ⟨o, es, ep, ho, r⟩ := hm
    exact ⟨o, es, ep, k _ o (Ne.symm hL) ho, r⟩
  · refine (I.hok b u e).stay (fun c v hc q => k c v ?_ q) (fun _ q => q) fun _ _ q => q
    rcases hc with z | z
    · rw [z]; exact nit b u e
    · exact nit c _ z
theorem Inv.tok (I : Inv X pins σ H s) (t : Nat) : Inv X pins σ H { s with toks := t } := I.un (h' := s.heap) (t' := t) Un.refl I.hok
/-- all objects kept -/
theorem Inv.kept {t' : Nat} (I : Inv X pins σ H s) (k : ∀ b u, s.heap.get? b = some u → h'.get? b = some u) : Inv X pins σ H { s with heap := h', toks := t' } := I.un (Un.kept k) (I.hok.kept k)
/-- a new object laid and tracked -/
theorem Inv.laid {a : Addr} {o : HO} {t' : Nat} (I : Inv X pins σ H s) (k : ∀ b u, s.heap.get? b = some u → h'.get? b = some u) (hp : s.heap.objs.size ≤ a) (new : ObjOk X.prog X.w (upd H a o) h' a o) :
    Inv X pins σ (upd H a o) { s with heap := h', toks := t' } := I.un (Un.laid k hp (I.hok.fresh hp)) (I.hok.laid k hp new)
/-- an object written -/
theorem Inv.write {x e : Addr} {o : HO} {t' : Nat} (I : Inv X pins σ H s) (mu : Mut (H x)) (he : e = x ∨ H e = some (.own x)) (k : ∀ b u, b ≠ e → s.heap.get? b = some u → h'.get? b = some u) (heo : ∃ u, h'.get? e = some u)
    (new : ObjOk X.prog X.w (upd H x o) h' x o) : Inv X pins σ (upd H x o) { s with heap := h', toks := t' } := I.un (Un.write mu he k heo) (I.hok.write mu he k heo new)
theorem Inv.pins_of {pins' : List (Addr × Obj)} (I : Inv X pins σ H s) (h : ∀ p ∈ pins', s.heap.get? p.1 = some p.2 ∧ H p.1 = none ∧ p.1 ≠ X.env.locals ∧ p.1 ∉ X.fs ∧ ∀ v, p.2.data ≠ .cell v) : Inv X pins' σ H s :=
  ⟨I.ok, I.os, I.bare, I.base, I.loc, I.cell, I.free, I.freeC, fun p hp => (List.mem_append.mp hp).elim (fun z => I.pin p (List.mem_append_left _ z)) (h p), I.hok, I.len⟩

theorem nodup_ix {N : List Str} (hN : N.Nodup) {i j : Nat} {x : Str} (a : N[i]? = some x) (b : N[j]? = some x) : i = j := by
  obtain ⟨h1, e1⟩ := List.getElem?_eq_some_iff.mp a
  obtain ⟨h2, e2⟩ := List.getElem?_eq_some_iff.mp b
  exact (List.getElem_inj hN).mp (e1.trans e2.symm)

/-- a name is stored; what changed -/
theorem store_ok2 {M : Model} {A : Around} {E : Value → Shared → Prop} {i : Nat} {x : Str} {v : V} {u : Value} {Q : Unit → Shared → Prop} (I : Inv X pins σ H s) (hN : X.N.Nodup) (hi : X.N[i]? = some x) (hx : Loc X.env.scope x) (r : RelV v u)
    (h : ∀ s', Inv X pins (σ.set i (some v)) H s' → (∃ a, Heap.SameBut a s.heap s'.heap ∧ (a = X.env.locals ∨ X.env.cells.lookup x = some a)) → Q () s') (hf : X.fn x = true ∨ X.env.scope.names.lookup x = some .local := by first | exact .inl rfl | exact .inr rfl | assumption) : wpAny M A (storeName X.env x u) Q E s := by
  obtain ⟨m, hn, hl⟩ := id I.loc
  have hcls : (X.env.scope.kind == .class || (X.env.scope.kind == .module && X.env.locals != X.env.globals)) = false := by rw [I.ok.kind]; rfl
  have hiσ : i < σ.length := by rw [I.len]; exact (List.getElem?_eq_some_iff.mp hi).1
  have cne := I.cne
  have tracked : ∀ {a : Addr} {h' : Heap}, (∃ o, s.heap.get? a = some o ∧ H a = none) → Heap.SameBut a s.heap h' → HOk X.prog X.w H h' := fun {a h'} ha hs b ob e => by
    obtain ⟨_, _, hfree⟩ := ha
    refine (I.hok b ob e).stay (fun c w' hc q => (hs.2 c ?_).trans q) (fun _ q => q) fun _ _ q => q
    rintro rfl
    rcases hc with rfl | hc
    · rw [hfree] at e; cases e
    · rw [hfree] at hc; cases hc
  rcases hx with hk | hk
  · refine wpAny_storeName_local hk hn (fun h' hn' hs => ?_) hcls
    obtain ⟨oL, _, _, hoL, _⟩ := id hn
    refine h _ ⟨I.ok, I.os, I.bare, ⟨fun b o e n hb hx => ?_, fun b o e n hb hx => ?_, I.base.free, fun b o e hx => ?_, I.base.tups, I.base.frzs, I.base.tbls⟩, ⟨_, hn', fun j y v' e1 e2 e3 => ?_⟩, fun y c e => ?_, I.free, I.freeC, fun p hp => ?_, tracked ⟨oL, hoL, I.free⟩ hs, by simpa using I.len⟩ ⟨_, hs, .inl rfl⟩
    · exact (hs.2 b (Nat.ne_of_lt (Nat.lt_of_lt_of_le (Heap.lt_size e) I.ok.above))).trans (I.base.keep b o e n hb hx)
    · obtain ⟨sl, e1⟩ := I.base.slot b o e n hb hx
      exact ⟨sl, (hs.2 b (Nat.ne_of_lt (Nat.lt_of_lt_of_le (Heap.lt_size e) I.ok.above))).trans e1⟩
    · obtain ⟨o', e1⟩ := I.base.there b o e hx
      exact ⟨o', (hs.2 b (Nat.ne_of_lt (Nat.lt_of_lt_of_le (Heap.lt_size e) I.ok.above))).trans e1⟩
    · by_cases hj : j = i
      · subst hj
        rw [hi] at e1; cases e1
        rw [List.getElem?_set_self hiσ] at e2
        cases e2
        exact ⟨u, r, .inl ⟨hk, by simp⟩⟩
      · rw [List.getElem?_set_ne (Ne.symm hj)] at e2
        obtain ⟨u', r', q⟩ := hl j y v' e1 e2 e3
        refine ⟨u', r', ?_⟩
        rcases q with ⟨k, e⟩ | ⟨k, c, e, z⟩
        · refine .inl ⟨k, ?_⟩
          have : y ≠ x := fun e => hj (nodup_ix hN e1 (e ▸ hi))
          simp [this, e]
        · exact .inr ⟨k, c, e, z.sameBut hs (cne y c e)⟩
    · obtain ⟨w', z⟩ := I.cell y c e
      exact ⟨w', z.sameBut hs (cne y c e)⟩
    · obtain ⟨e, n, ne, nf, d⟩ := I.pin p hp
      exact ⟨(hs.2 p.1 ne).trans e, n, ne, nf, d⟩
  · have hfn : X.fn x = true := by
      rcases hf with z | z
      · exact z
      · rw [z] at hk; cases hk
    obtain ⟨c, hc⟩ := I.ok.has x (.inl hk)
    obtain ⟨w', z⟩ := I.cell x c hc
    refine wpAny_storeName_cell I.ok.kind hk hc z (fun h' hc' hs => ?_)
    obtain ⟨oc, hoc, hocd⟩ := id z
    refine h { s with heap := h' } ⟨I.ok, I.os, I.bare, ⟨fun b o e n hb hx => ?_, fun b o e n hb hx => ?_, I.base.free, fun b o e hx => ?_, I.base.tups, I.base.frzs, I.base.tbls⟩, ⟨m, hn.sameBut hs (Ne.symm (cne x c hc)), fun j y v' e1 e2 e3 => ?_⟩, fun y c' e => ?_, I.free, I.freeC, fun p hp => ?_, tracked ⟨oc, hoc, I.freeC x c hc⟩ hs, by simpa using I.len⟩ ⟨c, hs, .inr hc⟩
    · exact (hs.2 b (Nat.ne_of_lt (Nat.lt_of_lt_of_le (Heap.lt_size e) (I.ok.cab x c hfn hc)))).trans (I.base.keep b o e n hb hx)
    · obtain ⟨sl, e1⟩ := I.base.slot b o e n hb hx
      exact ⟨sl, (hs.2 b (Nat.ne_of_lt (Nat.lt_of_lt_of_le (Heap.lt_size e) (I.ok.cab x c hfn hc)))).trans e1⟩
    · obtain ⟨o', e1⟩ := I.base.there b o e hx
      exact ⟨o', (hs.2 b (Nat.ne_of_lt (Nat.lt_of_lt_of_le (Heap.lt_size e) (I.ok.cab x c hfn hc)))).trans e1⟩
    · by_cases hj : j = i
      · subst hj
        rw [hi] at e1; cases e1
        rw [List.getElem?_set_self hiσ] at e2
        cases e2
        exact ⟨u, r, .inr ⟨.inl hk, c, hc, hc'⟩⟩
      · rw [List.getElem?_set_ne (Ne.symm hj)] at e2
        obtain ⟨u', r', q⟩ := hl j y v' e1 e2 e3
        refine ⟨u', r', ?_⟩
        rcases q with q | ⟨k, c', e, z'⟩
        · exact .inl q
        · refine .inr ⟨k, c', e, z'.sameBut hs ?_⟩
          rintro rfl
          exact hj (nodup_ix hN e1 (I.ok.inj _ _ _ e hc ▸ hi))
    · by_cases hcc : c' = c
      · subst hcc; exact ⟨_, hc'⟩
      · obtain ⟨w2, z2⟩ := I.cell y c' e
        exact ⟨w2, z2.sameBut hs hcc⟩
    · obtain ⟨e, n, ne, nf, d⟩ := I.pin p hp
      refine ⟨(hs.2 p.1 ?_).trans e, n, ne, nf, d⟩
      intro q
      rw [q, hoc] at e
      have q' : oc = p.2 := Option.some.inj e
      exact d w' (by rw [← q']; exact hocd)
theorem store_ok {M : Model} {A : Around} {E : Value → Shared → Prop} {i : Nat} {x : Str} {v : V} {u : Value} {Q : Unit → Shared → Prop} (I : Inv X pins σ H s) (hN : X.N.Nodup) (hi : X.N[i]? = some x) (hx : Loc X.env.scope x) (r : RelV v u)
    (h : ∀ s', Inv X pins (σ.set i (some v)) H s' → Q () s') (hf : X.fn x = true ∨ X.env.scope.names.lookup x = some .local := by first | exact .inl rfl | exact .inr rfl | assumption) : wpAny M A (storeName X.env x u) Q E s :=
  store_ok2 I hN hi hx r (fun s' I' _ => h s' I') hf
/-- behind a call or a block, the state as it is -/
theorem Inv.call' {s' : Shared} {ch : List Addr} (I : Inv X pins σ H s) (ho : s'.os = s.os) (u : Un (frs X.stack) ch H H' s.heap s'.heap) (hok : HOk X.prog X.w H' s'.heap) (hg : AllBare s'.gens)
    (hch : ∀ b ∈ ch, (b ∈ X.ex ∨ X.s₀.heap.objs.size ≤ b) ∧ b ≠ X.env.locals ∧ (∀ x c, X.env.cells.lookup x = some c → c ≠ b) ∧ ∀ p ∈ X.pn ++ pins, p.1 ≠ b) : Inv X pins σ H' s' := by
  obtain ⟨h', g', d', t', o'⟩ := s'
  have e : o' = s.os := ho
  subst e
  exact I.call (g' := g') (t' := t') (d' := d') u hok hg hch
end

/-! ### the judgements -/
/-- an exception: its class, its own dict's address (where it has one), the abstract heap behind it -/
abbrev XK := Value → Option Addr → Hp → Prop
abbrev St := List (Option V)
abbrev VK := V → Hp → Prop
/-- an expression's reading; a test's; an argument list's -/
abbrev TE := St → Hp → VK → Prop
abbrev TT := St → Hp → (Bool → Hp → Prop) → Prop
abbrev TA := St → Hp → (List V → Hp → Prop) → Prop
/-- what is wanted behind a statement -/
structure Ends where
  nx : St → Hp → Prop
  rt : VK
  bk : St → Hp → Prop := fun _ _ => False
  ct : St → Hp → Prop := fun _ _ => False
abbrev TS := Ends → St → Hp → Prop

def EP (X : Cx) (pins : List (Addr × Obj)) (σ : St) (Q : VK) (u : Value) (s' : Shared) : Prop := ∃ v H', Inv X pins σ H' s' ∧ RelV v u ∧ Q v H'
def TP (X : Cx) (pins : List (Addr × Obj)) (σ : St) (Q : Bool → Hp → Prop) (b : Bool) (s' : Shared) : Prop := ∃ H', Inv X pins σ H' s' ∧ Q b H'
def AP (X : Cx) (pins : List (Addr × Obj)) (σ : St) (Q : List V → Hp → Prop) (us : List Value) (s' : Shared) : Prop := ∃ vs H', Inv X pins σ H' s' ∧ Vals vs us ∧ Q vs H'
def SP (X : Cx) (pins : List (Addr × Obj)) (D : Ends) (f : Flow) (s' : Shared) : Prop :=
  match f with
  | .next => ∃ σ' H', Inv X pins σ' H' s' ∧ D.nx σ' H'
  | .brk => ∃ σ' H', Inv X pins σ' H' s' ∧ D.bk σ' H'
  | .cont => ∃ σ' H', Inv X pins σ' H' s' ∧ D.ct σ' H'
  | .ret u => ∃ v σ' H', Inv X pins σ' H' s' ∧ RelV v u ∧ D.rt v H'

def PE (X : Cx) (e : Expr) (t : TE) : Prop :=
  ∀ (pins : List (Addr × Obj)) (s : Shared) (σ : St) (H : Hp) (Q : VK), Inv X pins σ H s → t σ H Q → wpAny (model X.prog X.w) X.A (eval e X.env) (EP X pins σ Q) X.xe s
def PT (X : Cx) (e : Expr) (t : TT) : Prop :=
  ∀ (pins : List (Addr × Obj)) (s : Shared) (σ : St) (H : Hp) (Q : Bool → Hp → Prop), Inv X pins σ H s → t σ H Q → wpAny (model X.prog X.w) X.A (isTrue e X.env (eval e X.env)) (TP X pins σ Q) X.xe s
/-- a test whatever its 'whole' is (and, or) -/
def PW (X : Cx) (e : Expr) (t : TT) : Prop :=
  ∀ (whole : Sem Value) (pins : List (Addr × Obj)) (s : Shared) (σ : St) (H : Hp) (Q : Bool → Hp → Prop), Inv X pins σ H s → t σ H Q → wpAny (model X.prog X.w) X.A (isTrue e X.env whole) (TP X pins σ Q) X.xe s
theorem PW.pt {X : Cx} {e : Expr} {t : TT} (h : PW X e t) : PT X e t := h _
/-- an argument list (no star), from the left -/
def PA (X : Cx) (es : List Expr) (t : TA) : Prop :=
  ∀ (pos : Pos) (pins : List (Addr × Obj)) (s : Shared) (σ : St) (H : Hp) (Q : List V → Hp → Prop), Inv X pins σ H s → t σ H Q → wpAny (model X.prog X.w) X.A (spliced (backTo pos (starEach es X.env))) (AP X pins σ Q) X.xe s
def PS (X : Cx) (st : Stmt) (t : TS) : Prop :=
  ∀ (pins : List (Addr × Obj)) (s : Shared) (σ : St) (H : Hp) (D : Ends), Inv X pins σ H s → t D σ H → wpAny (model X.prog X.w) X.A (exec st X.env) (SP X pins D) X.xe s
def PSs (X : Cx) (st : List Stmt) (t : TS) : Prop :=
  ∀ (pins : List (Addr × Obj)) (s : Shared) (σ : St) (H : Hp) (D : Ends), Inv X pins σ H s → t D σ H → wpAny (model X.prog X.w) X.A (execs st X.env) (SP X pins D) X.xe s
/-- weaken the end -/
theorem thn {α : Type} {t : Sem α} {Q Q' : α → Shared → Prop} {M : Model} {A : Around} {E : Value → Shared → Prop} {s : Shared} (h : wpAny M A t Q E s) (hQ : ∀ a s, Q a s → Q' a s) : wpAny M A t Q' E s := wpAny_mono h hQ fun _ _ x => x
end L2

namespace L2
open PySem PySem.Spec PyProof.Rows
section
variable {X : Cx}

/-! ### names and constants -/
def tVar (i : Nat) : TE := fun σ H Q => ∃ v, σ[i]? = some (some v) ∧ Q v H
def tC (v : V) : TE := fun _ H Q => Q v H
theorem pe_var {i : Nat} {x : Str} {pos : Pos} (hN : X.N[i]? = some x) (hv : Vis X.env.scope x) (hd : (x == ("__debug__" : Str)) = false := by decide) (hcd : (x == ("__classdict__" : Str)) = false := by decide) : PE X (.Name x pos) (tVar i) := by
  intro pins s σ H Q I h
  obtain ⟨v, e, h⟩ := h
  obtain ⟨m, hn, hl⟩ := I.loc
  obtain ⟨u, r, l⟩ := hl i x v hN e hv
  have fin : EP X pins σ Q u s := ⟨v, H, I, r, h⟩
  rcases l with ⟨hk, hm⟩ | ⟨hk, c, hc, hcell⟩
  · exact wpAny_Name (wpAny_loadName_local I.ok.kind hk hn hm fin) hd
  · rcases hk with hk | hk
    · exact wpAny_Name (wpAny_loadName_cell I.ok.kind hk hc hcell fin) hd
    · exact wpAny_Name (wpAny_loadName_free I.ok.kind hk hc hcell fin hcd) hd
theorem pe_int {i j pos} : PE X (.Constant (.int i) j pos) (tC (.int i)) := fun _ _ _ H _ I h => wpAny_Constant_int ⟨.int i, H, I.tok _, ⟨_, rfl⟩, h⟩
theorem pe_bl {b j pos} : PE X (.Constant (.bool b) j pos) (tC (.bl b)) := fun _ _ _ H _ I h => Constant_bool ⟨.bl b, H, I, rfl, h⟩
theorem pe_non {j pos} : PE X (.Constant .none j pos) (tC .non) := fun _ _ _ H _ I h => Constant_none ⟨.non, H, I, rfl, h⟩
theorem pe_str {x j pos} : PE X (.Constant (.str x) j pos) (tC (.str x)) := fun _ _ _ H _ I h => Calls.Constant_str ⟨.str x, H, I.tok _, ⟨_, rfl⟩, h⟩

/-- a global name of the def -/
def Gl (X : Cx) (x : Str) : Prop := X.env.kindOf x = some .globalImplicit
theorem ld_glob {E : Value → Shared → Prop} {pins : List (Addr × Obj)} {s : Shared} {σ : St} {H : Hp} {x : Str} {u : Value} {pos : Pos} {Q : Value → Shared → Prop} (I : Inv X pins σ H s) (hg : Gl X x) (hm : X.mg x = some u) (h : Q u s)
    (hd : (x == ("__debug__" : Str)) = false := by decide) : wpAny (model X.prog X.w) X.A (eval (.Name x pos) X.env) Q E s :=
  Calls.Name_function_global I.ok.kind hg (Calls.loadGlobal_global (by rw [I.ok.glob]; exact I.mod.glob.keeps I.bk) hm h) hd
theorem ld_blt {E : Value → Shared → Prop} {pins : List (Addr × Obj)} {s : Shared} {σ : St} {H : Hp} {x : Str} {u : Value} {pos : Pos} {Q : Value → Shared → Prop} (I : Inv X pins σ H s) (hg : Gl X x) (hm : X.mg x = none) (hv : bootBuiltins x = some u) (h : Q u s)
    (hn : x ≠ "__name__" := by decide) (hd : (x == ("__debug__" : Str)) = false := by decide) : wpAny (model X.prog X.w) X.A (eval (.Name x pos) X.env) Q E s := by
  obtain ⟨mb, h1, h2⟩ := I.mod.blt
  exact Calls.Name_function_global I.ok.kind hg (Calls.loadGlobal_builtin (by rw [I.ok.glob]; exact I.mod.glob.keeps I.bk) hm (by rw [I.ok.blt]; exact h1.keeps I.bk) ((h2 x hn).trans hv) h) hd
/-- a module's constant, a class, a function, as a value -/
theorem pe_glob {x : Str} {v : V} {u : Value} {pos : Pos} (hg : Gl X x) (hm : X.mg x = some u) (r : RelV v u) (hd : (x == ("__debug__" : Str)) = false := by decide) : PE X (.Name x pos) (tC v) :=
  fun _ _ _ H _ I h => ld_glob I hg hm ⟨v, H, I, r, h⟩ hd
theorem pe_bltn {x : Str} {v : V} {u : Value} {pos : Pos} (hg : Gl X x) (hm : X.mg x = none) (hv : bootBuiltins x = some u) (r : RelV v u) (hn : x ≠ "__name__" := by decide) (hd : (x == ("__debug__" : Str)) = false := by decide) : PE X (.Name x pos) (tC v) :=
  fun _ _ _ H _ I h => ld_blt I hg hm hv ⟨v, H, I, r, h⟩ hn hd

/-! ### arithmetic -/
variable {a b : Expr} {ta tb : TE} {pos : Pos}
/-! ### comparisons -/
/-! ### and, or, not -/
variable {tA tB' : TT} {rest : List Expr}
def tAnd (t u : TT) : TT := fun σ H Q => t σ H fun c H1 => if c = true then u σ H1 Q else Q false H1
def tOr (t u : TT) : TT := fun σ H Q => t σ H fun c H1 => if c = true then Q true H1 else u σ H1 Q
def tNot (t : TT) : TT := fun σ H Q => t σ H fun c H1 => Q (!c) H1
theorem pw_and1 (ha : PT X a tA) : PW X (.BoolOp .And [a] pos) tA := by
  intro wh pins s σ H Q I h
  refine isTrue_and (thn (ha pins s σ H Q I h) fun c s1 e => ?_)
  cases c with
  | true => exact isTrue_and_nil e
  | false => exact e
theorem pw_or1 (ha : PT X a tA) : PW X (.BoolOp .Or [a] pos) tA := by
  intro wh pins s σ H Q I h
  refine isTrue_or (thn (ha pins s σ H Q I h) fun c s1 e => ?_)
  cases c with
  | false => exact isTrue_or_nil e
  | true => exact e
theorem pw_and (ha : PT X a tA) (hb : PW X (.BoolOp .And (b :: rest) pos) tB') : PW X (.BoolOp .And (a :: b :: rest) pos) (tAnd tA tB') := by
  intro wh pins s σ H Q I h
  refine isTrue_and (thn (ha pins s σ H _ I h) fun c s1 ⟨H1, I1, q1⟩ => ?_)
  cases c with
  | true => exact hb wh pins s1 σ H1 Q I1 q1
  | false => exact ⟨H1, I1, q1⟩
theorem pw_or (ha : PT X a tA) (hb : PW X (.BoolOp .Or (b :: rest) pos) tB') : PW X (.BoolOp .Or (a :: b :: rest) pos) (tOr tA tB') := by
  intro wh pins s σ H Q I h
  refine isTrue_or (thn (ha pins s σ H _ I h) fun c s1 ⟨H1, I1, q1⟩ => ?_)
  cases c with
  | true => exact ⟨H1, I1, q1⟩
  | false => exact hb wh pins s1 σ H1 Q I1 q1
theorem pt_not (ha : PT X a tA) : PT X (.UnaryOp .Not a pos) (tNot tA) := by
  intro pins s σ H Q I h
  exact isTrue_not (ha pins s σ H (fun c H1 => Q (!c) H1) I h)
/-- .. as values (bools) -/
def tAndV (ta tb : TE) : TE := fun σ H Q => ta σ H fun x H1 => ∃ c, x = .bl c ∧ if c = true then tb σ H1 Q else Q (.bl false) H1
def tNotV (ta : TE) : TE := fun σ H Q => ta σ H fun x H1 => ∃ c, x = .bl c ∧ Q (.bl (!c)) H1
theorem pe_one {op} {t : TE} (h : PE X a t) : PE X (.BoolOp op [a] pos) t := fun pins s σ H Q I hw => BoolOp_one (h pins s σ H Q I hw)
theorem pe_and (ha : PE X a ta) (hb : PE X (.BoolOp .And (b :: rest) pos) tb) : PE X (.BoolOp .And (a :: b :: rest) pos) (tAndV ta tb) := by
  intro pins s σ H Q I h
  refine BoolOp_and (thn (ha pins s σ H _ I h) fun v s1 ⟨x, H1, I1, r1, q1⟩ => ?_)
  obtain ⟨c, rfl, q1⟩ := q1
  cases r1
  refine wpAny_truthy_bool ?_
  cases c with
  | true => exact hb pins s1 σ H1 Q I1 q1
  | false => exact ⟨.bl false, H1, I1, rfl, q1⟩
theorem pe_not (ha : PE X a ta) : PE X (.UnaryOp .Not a pos) (tNotV ta) := by
  intro pins s σ H Q I h
  refine UnaryOp_ (thn (ha pins s σ H _ I h) fun v s1 ⟨x, H1, I1, r1, q1⟩ => ?_)
  obtain ⟨c, rfl, q1⟩ := q1
  cases r1
  exact not_of (wpAny_truthy_bool ⟨.bl (!c), H1, I1, rfl, q1⟩)
/-- a if t else b -/
def tIf (t : TT) (ta tb : TE) : TE := fun σ H Q => t σ H fun c H1 => if c = true then ta σ H1 Q else tb σ H1 Q
theorem pe_ifExp {c : Expr} (hc : PT X c tA) (ha : PE X a ta) (hb : PE X b tb) : PE X (.IfExp c a b pos) (tIf tA ta tb) := by
  intro pins s σ H Q I h
  refine wpAny_IfExp (thn (hc pins s σ H _ I h) fun d s1 ⟨H1, I1, q1⟩ => ?_)
  cases d with
  | true => exact ha pins s1 σ H1 Q I1 q1
  | false => exact hb pins s1 σ H1 Q I1 q1
end
end L2

namespace L2
open PySem PySem.Spec PyProof.Rows

/-! ### a list, a tuple that is read: tracked, frozen, or an object of the module -/
def SqL (K : PySem.W.Frag) (H : Hp) (a : Addr) (xs : List V) : Prop :=
  Rd H a (.lst xs) ∨
    ∃ (o : Obj) (its : Array Value) (n : Nat), K.lookup a = some o ∧ o.cls = .type "list" ∧ o.dict = none ∧ o.data = .seq its n ∧ its.size ≤ sizeLine ∧ Vals xs its.toList
def SqT (K : PySem.W.Frag) (H : Hp) (a : Addr) (xs : List V) : Prop :=
  Rd H a (.tup xs) ∨
    ∃ (o : Obj) (its : Array Value) (n : Nat), K.lookup a = some o ∧ o.cls = .type "tuple" ∧ o.data = .seq its n ∧ its.size ≤ sizeLine ∧ Vals xs its.toList
def absV : Value → Option V
  | .none => some .non
  | .bool b => some (.bl b)
  | .int i _ => some (.int i)
  | .str x _ => some (.str x)
  | .bytes b _ => some (.byt b)
  | .float b _ => some (.flt b)
  | .ref a => some (.ref a)
  | .type n => some (.ty n)
  | _ => none
theorem RelV.abs {x : V} {u : Value} (r : RelV x u) : absV u = some x := by
  cases x with
  | non => cases r; rfl
  | bl _ => cases r; rfl
  | int _ => obtain ⟨t, rfl⟩ := r; rfl
  | str _ => obtain ⟨t, rfl⟩ := r; rfl
  | byt _ => obtain ⟨t, rfl⟩ := r; rfl
  | flt _ => obtain ⟨t, rfl⟩ := r; rfl
  | ref _ => cases r; rfl
  | ty _ => cases r; rfl
theorem RelV.inj {x y : V} {u : Value} (r : RelV x u) (q : RelV y u) : x = y := Option.some.inj (r.abs.symm.trans q.abs)
theorem Vals.inj : ∀ {xs ys : List V} {us : List Value}, Vals xs us → Vals ys us → xs = ys
  | _, _, _, .nil, .nil => rfl
  | _, _, _, .cons r t, .cons r' t' => by rw [r.inj r', Vals.inj t t']
section
variable {X : Cx} {pins : List (Addr × Obj)} {σ : St} {H : Hp} {s : Shared} {a : Addr} {xs ys : List V}
theorem SqL.of {K : PySem.W.Frag} (h : H a = some (.lst xs)) : SqL K H a xs := .inl (.inl h)
theorem SqT.of {K : PySem.W.Frag} (h : H a = some (.tup xs)) : SqT K H a xs := .inl (.inl h)
theorem Inv.list (I : Inv X pins σ H s) (h : SqL X.K H a xs) : ∃ its : List Value, Vals xs its ∧ PlainL s.heap a its.toArray ∧ xs.length ≤ sizeLine := by
  rcases h with h | ⟨o, its, n, hk, hc, hd, hs, hz, r⟩
  · obtain ⟨z, its, n, r, e⟩ := h.ok I.hok
    exact ⟨its, r, ⟨_, n, e, rfl, rfl, rfl⟩, z⟩
  · refine ⟨its.toList, r, ⟨o, n, I.kIn a o hk, hc, hd, by simpa using hs⟩, ?_⟩
    have e := r.length
    simp only [Array.length_toList] at e
    omega
theorem Inv.tuple (I : Inv X pins σ H s) (h : SqT X.K H a xs) : ∃ its : List Value, Vals xs its ∧ IsTup s.heap a its.toArray ∧ xs.length ≤ sizeLine := by
  rcases h with h | ⟨o, its, n, hk, hc, hs, hz, r⟩
  · obtain ⟨z, its, r, p⟩ := h.ok I.hok
    exact ⟨its, r, p, z⟩
  · refine ⟨its.toList, r, ⟨o, I.kIn a o hk, hc, n, by simpa using hs⟩, ?_⟩
    have e := r.length
    simp only [Array.length_toList] at e
    omega
theorem Inv.list_inj (I : Inv X pins σ H s) (h : SqL X.K H a xs) (h' : SqL X.K H a ys) : xs = ys := by
  obtain ⟨its, r, ⟨o, n, e, _, _, d⟩, _⟩ := I.list h
  obtain ⟨its', r', ⟨o', n', e', _, _, d'⟩, _⟩ := I.list h'
  rw [e] at e'; cases e'
  rw [d] at d'
  injection d' with d1 _
  have : its = its' := by simpa using congrArg Array.toList d1
  subst this
  exact r.inj r'
theorem Inv.tuple_inj (I : Inv X pins σ H s) (h : SqT X.K H a xs) (h' : SqT X.K H a ys) : xs = ys := by
  obtain ⟨its, r, ⟨o, e, _, n, d⟩, _⟩ := I.tuple h
  obtain ⟨its', r', ⟨o', e', _, n', d'⟩, _⟩ := I.tuple h'
  rw [e] at e'; cases e'
  rw [d] at d'
  injection d' with d1 _
  have : its = its' := by simpa using congrArg Array.toList d1
  subst this
  exact r.inj r'
end

/-! ### another wish about exceptions -/
abbrev Cx.wish (X : Cx) (E : Value → Shared → Prop) : Cx := { X with xe := E }
/-- no exception leaves -/
abbrev Cx.nox (X : Cx) : Cx := X.wish fun _ _ => False
theorem Cx.Ok.wish {X : Cx} (ok : X.Ok) (E : Value → Shared → Prop) : (X.wish E).Ok :=
  ⟨ok.mod, ok.kind, ok.glob, ok.blt, ok.above, ok.inj, ok.has, ok.cab, ok.hd, ok.frames, ok.stk, ok.exf, ok.bs, ok.bsz, ok.noex, ok.exfs, ok.funs, ok.frf⟩
theorem Cx.Ok.unwish {X : Cx} {E : Value → Shared → Prop} (ok : (X.wish E).Ok) : X.Ok :=
  ⟨ok.mod, ok.kind, ok.glob, ok.blt, ok.above, ok.inj, ok.has, ok.cab, ok.hd, ok.frames, ok.stk, ok.exf, ok.bs, ok.bsz, ok.noex, ok.exfs, ok.funs, ok.frf⟩
section
variable {X : Cx} {pins : List (Addr × Obj)} {σ : St} {H : Hp} {s : Shared} {E : Value → Shared → Prop}
theorem Inv.wish (I : Inv X pins σ H s) (E : Value → Shared → Prop) : Inv (X.wish E) pins σ H s := ⟨I.ok.wish E, I.os, I.bare, I.base, I.loc, I.cell, I.free, I.freeC, I.pin, I.hok, I.len⟩
theorem Inv.unwish (I : Inv (X.wish E) pins σ H s) : Inv X pins σ H s := ⟨I.ok.unwish, I.os, I.bare, I.base, I.loc, I.cell, I.free, I.freeC, I.pin, I.hok, I.len⟩
theorem SP.unwish {D : Ends} {f : Flow} {s' : Shared} (h : SP (X.wish E) pins D f s') : SP X pins D f s' := by
  cases f with
  | next => obtain ⟨σ', H', I, q⟩ := h; exact ⟨σ', H', I.unwish, q⟩
  | brk => obtain ⟨σ', H', I, q⟩ := h; exact ⟨σ', H', I.unwish, q⟩
  | cont => obtain ⟨σ', H', I, q⟩ := h; exact ⟨σ', H', I.unwish, q⟩
  | ret u => obtain ⟨v, σ', H', I, r, q⟩ := h; exact ⟨v, σ', H', I.unwish, r, q⟩
theorem PE.nox {e : Expr} {t : TE} (h : PE X.nox e t) : PE X e t := fun pins s σ H Q I hw =>
  wpAny_mono (h pins s σ H Q (I.wish _) hw) (fun _ _ ⟨v, H', I', r, q⟩ => ⟨v, H', I'.unwish, r, q⟩) fun _ _ z => False.elim z
theorem PT.nox {e : Expr} {t : TT} (h : PT X.nox e t) : PT X e t := fun pins s σ H Q I hw =>
  wpAny_mono (h pins s σ H Q (I.wish _) hw) (fun _ _ ⟨H', I', q⟩ => ⟨H', I'.unwish, q⟩) fun _ _ z => False.elim z
theorem PSs.nox {st : List Stmt} {t : TS} (h : PSs X.nox st t) : PSs X st t := fun pins s σ H D I hw =>
  wpAny_mono (h pins s σ H D (I.wish _) hw) (fun _ _ q => q.unwish) fun _ _ z => False.elim z
end

/-! ### blocks and small statements -/
section
variable {X : Cx} {st : Stmt} {rest : List Stmt} {t u : TS} {e : Expr} {te : TE} {pos : Pos}
def tNext : TS := fun D σ H => D.nx σ H
def tSeq (t u : TS) : TS := fun D σ H => t { D with nx := u D } σ H
theorem pss_nil : PSs X [] tNext := fun _ _ σ H _ I h => wpAny_execs_nil ⟨σ, H, I, h⟩
theorem pss_cons (h1 : PS X st t) (h2 : PSs X rest u) : PSs X (st :: rest) (tSeq t u) := by
  intro pins s σ H D I h
  refine wpAny_execs_cons (thn (h1 pins s σ H { D with nx := u D } I h) fun f s1 q => ?_)
  cases f with
  | next =>
    obtain ⟨σ', H', I', q⟩ := q
    exact h2 pins s1 σ' H' D I' q
  | ret v => exact q
  | brk => exact q
  | cont => exact q
theorem pss_one (h1 : PS X st t) : PSs X [st] t := by
  intro pins s σ H D I h
  refine wpAny_execs_cons (thn (h1 pins s σ H D I h) fun f s1 q => ?_)
  cases f with
  | next => exact wpAny_execs_nil q
  | ret v => exact q
  | brk => exact q
  | cont => exact q
/-- in a def's body nothing is shown -/
theorem Inv.quiet {pins : List (Addr × Obj)} {σ : St} {H : Hp} {s : Shared} (I : Inv X pins σ H s) : interactive X.env = false := by simp [interactive, I.ok.kind]
/-- an expression whose value is dropped -/
def tDrop (te : TE) : TS := fun D σ H => te σ H fun _ H1 => D.nx σ H1
theorem ps_expr (he : PE X e te) (hs : swapsWith e none pos.line X.env = pure false := by rfl) : PS X (.Expr e pos) (tDrop te) := by
  intro pins s σ H D I h
  exact wpAny_Expr_any (thn (he pins s σ H _ I h) fun v s1 ⟨x, H1, I1, r1, q1⟩ => ⟨σ, H1, I1, q1⟩) I.quiet hs
def tRet (te : TE) : TS := fun D σ H => te σ H D.rt
theorem ps_ret (he : PE X e te) : PS X (.Return (some e) pos) (tRet te) := by
  intro pins s σ H D I h
  exact wpAny_Return_some (thn (he pins s σ H _ I h) fun v s1 ⟨x, H1, I1, r1, q1⟩ => ⟨x, σ, H1, I1, r1, q1⟩)
def tIfS (c : TT) (t u : TS) : TS := fun D σ H => c σ H fun b H1 => if b = true then t D σ H1 else u D σ H1
theorem ps_if {c : Expr} {a b : List Stmt} {tc : TT} (hc : PT X c tc) (ha : PSs X a t) (hb : PSs X b u) : PS X (.If c a b pos) (tIfS tc t u) := by
  intro pins s σ H D I h
  refine wpAny_If (thn (hc pins s σ H _ I h) fun d s1 ⟨H1, I1, q1⟩ => ?_)
  cases d with
  | true => exact ha pins s1 σ H1 D I1 q1
  | false => exact hb pins s1 σ H1 D I1 q1
/-- code that the proof never comes to -/
def tNever : TS := fun _ _ _ => False
theorem ps_never : PS X st tNever := fun _ _ _ _ _ _ h => h.elim
theorem pss_never {sts : List Stmt} : PSs X sts tNever := fun _ _ _ _ _ _ h => h.elim
end

/-! ### targets -/
abbrev TG := V → St → Hp → (St → Hp → Prop) → Prop
abbrev TGs := List V → St → Hp → (St → Hp → Prop) → Prop
def PG (X : Cx) (target : Expr) (t : TG) : Prop :=
  ∀ (pins : List (Addr × Obj)) (s : Shared) (σ : St) (H : Hp) (v : V) (u : Value) (Q : St → Hp → Prop), Inv X pins σ H s → RelV v u → t v σ H Q →
    wpAny (model X.prog X.w) X.A (assign target X.env u) (fun _ s' => ∃ σ' H', Inv X pins σ' H' s' ∧ Q σ' H') X.xe s
/-- several targets, one after another -/
def PGs (X : Cx) (ts : List Expr) (t : TGs) : Prop :=
  ∀ (pins : List (Addr × Obj)) (s : Shared) (σ : St) (H : Hp) (vs : List V) (us : List Value) (Q : St → Hp → Prop), Inv X pins σ H s → Vals vs us → t vs σ H Q →
    wpAny (model X.prog X.w) X.A (assignInOrder ((assignEach ts X.env).map (·.2)) us) (fun _ s' => ∃ σ' H', Inv X pins σ' H' s' ∧ Q σ' H') X.xe s
/-- o[i] = v, by values -/
abbrev TSet := V → V → V → Hp → (Hp → Prop) → Prop
def PSet (X : Cx) (t : TSet) : Prop :=
  ∀ (pins : List (Addr × Obj)) (s : Shared) (σ : St) (H : Hp) (o i v : V) (ov iv u : Value) (Q : Hp → Prop), Inv X pins σ H s → RelV o ov → RelV i iv → RelV v u → t o i v H Q →
    wpAny (model X.prog X.w) X.A (setItem ov iv u) (fun _ s' => ∃ H', Inv X pins σ H' s' ∧ Q H') X.xe s
/-- a op= b, by values -/
abbrev TIp := V → V → Hp → VK → Prop
def PIp (X : Cx) (op : Operator) (t : TIp) : Prop :=
  ∀ (pins : List (Addr × Obj)) (s : Shared) (σ : St) (H : Hp) (x y : V) (v u : Value) (Q : VK), Inv X pins σ H s → RelV x v → RelV y u → t x y H Q →
    wpAny (model X.prog X.w) X.A (inplaceOp op v u) (EP X pins σ Q) X.xe s
section
variable {X : Cx} {pos : Pos}
def gName (i : Nat) : TG := fun v σ H Q => Q (σ.set i (some v)) H
theorem pg_name {i : Nat} {x : Str} (hN : X.N.Nodup) (hi : X.N[i]? = some x) (hx : Loc X.env.scope x) (hf : X.fn x = true ∨ X.env.scope.names.lookup x = some .local := by first | exact .inl rfl | exact .inr rfl | assumption) : PG X (.Name x pos) (gName i) := by
  intro pins s σ H v u Q I r h
  exact wpAny_assign_Name (store_ok I hN hi hx r (fun s' I' => ⟨_, H, I', h⟩) hf)
def gNil : TGs := fun vs σ H Q => vs = [] ∧ Q σ H
def gCons (t : TG) (u : TGs) : TGs := fun vs σ H Q => ∃ v r, vs = v :: r ∧ t v σ H fun σ' H' => u r σ' H' Q
theorem pgs_nil : PGs X [] gNil := by
  intro pins s σ H vs us Q I r h
  obtain ⟨e, h⟩ := h
  subst e
  cases r
  exact assignInOrder_nil ⟨σ, H, I, h⟩
theorem pgs_cons {e : Expr} {es : List Expr} {t : TG} {u : TGs} (h1 : PG X e t) (h2 : PGs X es u)
    (hs : (assignEach (e :: es) X.env).map (·.2) = assign e X.env :: (assignEach es X.env).map (·.2) := by rfl) : PGs X (e :: es) (gCons t u) := by
  intro pins s σ H vs us Q I r h
  obtain ⟨v, vr, e1, h⟩ := h
  subst e1
  cases r with
  | cons r rr =>
    rw [hs]
    refine assignInOrder_cons (thn (h1 pins s σ H _ _ _ I r h) fun _ s1 ⟨σ1, H1, I1, q1⟩ => ?_)
    exact h2 pins s1 σ1 H1 _ _ Q I1 rr q1
/-- (a, b, ..) = a tuple of that length -/
def gTup (K : PySem.W.Frag) (n : Nat) (t : TGs) : TG := fun v σ H Q => ∃ a xs, v = .ref a ∧ SqT K H a xs ∧ xs.length = n ∧ t xs σ H Q
theorem pg_tup {es : List Expr} {k : Nat} {t : TGs} {n : Nat} (hc : X.calm = true) (h : PGs X es t)
    (hn : (assignEach es X.env).length = n := by rfl) (hst : (assignEach es X.env).findIdx? (·.1) = none := by rfl) : PG X (.Tuple es k pos) (gTup X.K n t) := by
  intro pins s σ H v u Q I r hw
  obtain ⟨a, xs, e1, hq, hl, hw⟩ := hw
  subst e1
  cases r
  obtain ⟨its, rv, ht, hz⟩ := I.tuple hq
  refine assign_Tuple_tuple (I.ok.hd hc) ht (by simp [hn, ← hl, rv.length]) hst fun h' hx => ?_
  have I1 : Inv X pins σ H { s with heap := h' } := I.kept (t' := s.toks) fun b o e => hx b o (Nat.ne_of_lt (Heap.lt_size e)) e
  exact h pins _ σ H xs _ Q I1 (by simpa using rv) hw
/-- o[i] = .. -/
def gSub (to ti : TE) (t : TSet) : TG := fun v σ H Q => to σ H fun o H1 => ti σ H1 fun i H2 => t o i v H2 fun H3 => Q σ H3
theorem pg_sub {o i : Expr} {to ti : TE} {t : TSet} (ho : PE X o to) (hi : PE X i ti) (hs : PSet X t)
    (ha : ∀ v, assign (.Subscript o i pos) X.env v = (do
      let ov ← holding [v] (eval o X.env)
      let iv ← holding [v, ov] (eval i X.env)
      standAt pos
      holding [v, ov, iv] (setItem ov iv v)
      release [v, ov, iv] []) := by intro _; rfl) : PG X (.Subscript o i pos) (gSub to ti t) := by
  intro pins s σ H v u Q I r h
  rw [ha]
  refine wpAny_bind (wpAny_holding (thn (ho pins s σ H _ I h) fun ov s1 ⟨x, H1, I1, r1, q1⟩ => ?_))
  refine wpAny_bind (wpAny_holding (thn (hi pins s1 σ H1 _ I1 q1) fun iv s2 ⟨y, H2, I2, r2, q2⟩ => ?_))
  refine wpAny_bind (wpAny_standAt (wpAny_bind (wpAny_holding (thn (hs pins s2 σ H2 x y v ov iv u _ I2 r1 r2 r q2) fun _ s3 ⟨H3, I3, q3⟩ => ?_))))
  exact wpAny_release ⟨σ, H3, I3, q3⟩
/-- target = value -/
def tAsg (te : TE) (g : TG) : TS := fun D σ H => te σ H fun x H1 => g x σ H1 D.nx
theorem ps_asg {tg e : Expr} {te : TE} {g : TG} (he : PE X e te) (hg : PG X tg g) (hs : swapsWithSole [tg] e pos.line X.env = pure false := by rfl) (hw : swappedStores [tg] e X.env = pure none := by rfl)
    (h1 : (assignEach [tg] X.env).map (·.2) = [assign tg X.env] := by rfl) : PS X (.Assign [tg] e pos) (tAsg te g) := by
  intro pins s σ H D I h
  refine wpAny_Assign_stores (thn (he pins s σ H _ I h) fun v s1 ⟨x, H1, I1, r1, q1⟩ => ?_) hs hw
  rw [h1]
  exact thn (hg pins s1 σ H1 x v _ I1 r1 q1) fun _ s2 q => q
/-- name = value -/
theorem ps_set {i : Nat} {x : Str} {e : Expr} {te : TE} {pos' : Pos} (hN : X.N.Nodup) (hi : X.N[i]? = some x) (hx : Loc X.env.scope x) (he : PE X e te) (hs : swapsWith e (some (.Name x pos')) pos.line X.env = pure false := by rfl) (hf : X.fn x = true ∨ X.env.scope.names.lookup x = some .local := by first | exact .inl rfl | exact .inr rfl | assumption) :
    PS X (.Assign [.Name x pos'] e pos) (tAsg te (gName i)) := by
  intro pins s σ H D I h
  refine wpAny_Assign_Name (thn (he pins s σ H _ I h) fun v s1 ⟨y, H1, I1, r1, q1⟩ => ?_) hs
  exact store_ok I1 hN hi hx r1 (fun s2 I2 => ⟨_, H1, I2, q1⟩) hf
/-- a, b = x, y with plain local names: stored from the right; the pair itself is not tracked (the opening rows as in PyProof/Rows/TupAssign.lean:23) -/
def tPar (i j : Nat) (ta : TA) : TS := fun D σ H => ta σ H fun vs H1 => ∃ v w, vs = [v, w] ∧ D.nx ((σ.set i (some v)).set j (some w)) H1
theorem ps_par {i j : Nat} {x y : Str} {a b : Expr} {ta : TA} {px py pt : Pos} {kt k2 pt2} (hc : X.calm = true) (hN : X.N.Nodup) (hi : X.N[i]? = some x) (hj : X.N[j]? = some y) (hij : i ≠ j)
    (hx : X.env.scope.names.lookup x = some .local) (hy : X.env.scope.names.lookup y = some .local) (ha : PA X [a, b] ta)
    (hw : swappedStores [.Tuple [.Name x px, .Name y py] kt pt] (.Tuple [a, b] k2 pt2) X.env = pure (some [x, y]))
    (hs : swapsWithSole [.Tuple [.Name x px, .Name y py] kt pt] (.Tuple [a, b] k2 pt2) pos.line X.env = pure false := by rfl) :
    PS X (.Assign [.Tuple [.Name x px, .Name y py] kt pt] (.Tuple [a, b] k2 pt2) pos) (tPar i j ta) := by
  intro pins s σ H D I h
  rw [exec_Assign_arm]
  refine wpAny_bind (wpAny_standAt ?_)
  rw [hs]
  refine wpAny_bind (wpAny_pure ?_)
  rw [if_neg (by decide)]
  refine wpAny_bind (Tuple_ (thn (ha _ pins s σ H _ I h) fun us s1 ⟨vs, H1, I1, r1, q1⟩ => ?_))
  obtain ⟨v, w, e1, q1⟩ := q1
  subst e1
  obtain ⟨u1, u2, rfl, rv, rw'⟩ : ∃ u1 u2, us = [u1, u2] ∧ RelV v u1 ∧ RelV w u2 := by
    cases r1 with
    | cons p q =>
      cases q with
      | cons p' q' =>
        cases q'
        exact ⟨_, _, rfl, p, p'⟩
  refine wpAny_newObj_type ?_ (by show 2 ≤ sizeLine; decide)
  have I2 : Inv X pins σ H1 { s1 with heap := s1.heap.push { cls := .type "tuple", data := .seq [u1, u2].toArray } } := I1.kept (t' := s1.toks) fun b o e => Heap.get?_push_of_some _ e
  rw [hw]
  refine wpAny_bind (wpAny_pure ?_)
  show wpAny (model X.prog X.w) X.A (do rule "assign.swapped-stores"; let items ← unpackItems (.ref s1.heap.objs.size) 2 none; assignInOrder [fun v => bindName X.env y v, fun v => bindName X.env x v] items.reverse; pure Flow.next) _ _ _
  refine wpAny_bind (wpAny_rule (wpAny_bind (unpackItems_tuple (items := #[u1, u2]) (I.ok.hd hc) (IsTup.new s1.heap _) fun h' hx' => ?_)))
  have I3 := I2.kept (h' := h') (t' := s1.toks) fun b o e => hx' b o (Nat.ne_of_lt (Heap.lt_size e)) e
  show wpAny _ _ (assignInOrder [fun v => bindName X.env y v, fun v => bindName X.env x v] [u2, u1] >>= fun _ => pure Flow.next) _ _ _
  refine wpAny_bind (assignInOrder_cons (wpAny_bindName (store_ok I3 hN hj (.inl hy) rw' (fun s2 I4 => ?_) (.inr hy))))
  refine assignInOrder_cons (wpAny_bindName (store_ok I4 hN hi (.inl hx) rv (fun s3 I5 => assignInOrder_nil (wpAny_pure ?_)) (.inr hx)))
  rw [List.set_comm _ _ (Ne.symm hij)] at I5
  exact ⟨_, H1, I5, q1⟩
/-- name op= e -/
def tAug (i : Nat) (te : TE) (ti : TIp) : TS := fun D σ H => ∃ x, σ[i]? = some (some x) ∧ te σ H fun y H1 => ti x y H1 fun z H2 => D.nx (σ.set i (some z)) H2
theorem ps_aug {i : Nat} {x : Str} {e : Expr} {te : TE} {op : Operator} {ti : TIp} {pos' : Pos} (hN : X.N.Nodup) (hi : X.N[i]? = some x) (hx : Loc X.env.scope x) (he : PE X e te) (ho : PIp X op ti) (hf : X.fn x = true ∨ X.env.scope.names.lookup x = some .local := by first | exact .inl rfl | exact .inr rfl | assumption) :
    PS X (.AugAssign (.Name x pos') op e pos) (tAug i te ti) := by
  intro pins s σ H D I h
  obtain ⟨v, e1, h⟩ := h
  obtain ⟨m, hn, hl⟩ := I.loc
  have vis : Vis X.env.scope x := by rcases hx with k | k; exact .inl k; exact .inr (.inl k)
  obtain ⟨u, r, l⟩ := hl i x v hi e1 vis
  refine wpAny_AugAssign_Name ?_
  have go : wpAny (model X.prog X.w) X.A (eval e X.env) (fun w s₂ => wpAny (model X.prog X.w) X.A (inplaceOp op u w) (fun r s₃ => wpAny (model X.prog X.w) X.A (storeName X.env x r) (fun _ => SP X pins D .next) X.xe s₃) X.xe s₂) X.xe s := by
    refine thn (he pins s σ H _ I h) fun w s1 ⟨y, H1, I1, r1, q1⟩ => ?_
    refine thn (ho pins s1 σ H1 v y u w _ I1 r r1 q1) fun z s2 ⟨zv, H2, I2, r2, q2⟩ => ?_
    exact store_ok I2 hN hi hx r2 (fun s3 I3 => ⟨_, H2, I3, q2⟩) hf
  rcases l with ⟨hk, hm⟩ | ⟨hk, c, hc, hcell⟩
  · exact wpAny_loadName_local I.ok.kind hk hn hm go
  · rcases hk with hk | hk
    · exact wpAny_loadName_cell I.ok.kind hk hc hcell go
    · rcases hx with k | k
      · have : X.env.scope.names.lookup x = some .free := hk
        rw [k] at this; cases this
      · have : X.env.scope.names.lookup x = some .free := hk
        rw [k] at this; cases this
/-- ints -/
def ipI (f : Int → Int → Int) : TIp := fun x y H Q => ∃ i j, x = .int i ∧ y = .int j ∧ Q (.int (f i j)) H
theorem ip_add : PIp X .Add (ipI fun i j => i + j) := by
  intro pins s σ H x y v u Q I r1 r2 h
  obtain ⟨i, j, e1, e2, q⟩ := h
  subst e1; subst e2
  obtain ⟨t, rfl⟩ := r1
  obtain ⟨t', rfl⟩ := r2
  exact iadd_int ⟨.int _, H, I.tok _, ⟨_, rfl⟩, q⟩
theorem ip_sub : PIp X .Sub (ipI fun i j => i - j) := by
  intro pins s σ H x y v u Q I r1 r2 h
  obtain ⟨i, j, e1, e2, q⟩ := h
  subst e1; subst e2
  obtain ⟨t, rfl⟩ := r1
  obtain ⟨t', rfl⟩ := r2
  exact isub_int ⟨.int _, H, I.tok _, ⟨_, rfl⟩, q⟩
end

/-! ### while -/
section
variable {X : Cx} {pos : Pos}
/-- the invariant W with its measure -/
def tWhile (c : TT) (tb : TS) : TS := fun D σ H => ∃ W : Nat → St → Hp → Prop, (∃ m, W m σ H) ∧ ∀ m σ H, W m σ H →
  c σ H fun b H1 => if b = true then ∃ N : St → Hp → Prop, (∀ σ' H', N σ' H' → ∃ m', m' < m ∧ W m' σ' H') ∧ tb { D with nx := N, ct := N, bk := D.nx } σ H1 else D.nx σ H1
theorem ps_while {c : Expr} {body : List Stmt} {tc : TT} {tb : TS} (hp : PassesOwn (model X.prog X.w) X.A X.env X.xe) (hc : PT X c tc) (hb : PSs X body tb) : PS X (.While c body [] pos) (tWhile tc tb) := by
  intro pins s σ H D I h
  obtain ⟨W, ⟨m0, w0⟩, turn⟩ := h
  refine wpAny_While (codeAny_whileLoop (fun n s' => ∃ σ' H', Inv X pins σ' H' s' ∧ W n σ' H') ?_ m0 ⟨σ, H, I, w0⟩)
  rintro n s1 ⟨σ1, H1, I1, w1⟩
  refine wpAny_passesOwn hp (thn (hc pins s1 σ1 H1 _ I1 (turn n σ1 H1 w1)) fun b s2 ⟨H2, I2, q2⟩ => ?_)
  cases b with
  | true =>
    obtain ⟨N, hN, q2⟩ := q2
    rw [if_pos rfl]
    refine wpAny_passesOwn hp (thn (hb pins s2 σ1 H2 _ I2 q2) fun f s3 q3 => ?_)
    cases f with
    | next =>
      obtain ⟨σ3, H3, I3, n3⟩ := q3
      obtain ⟨m', hm, w3⟩ := hN σ3 H3 n3
      exact ⟨m', hm, σ3, H3, I3, w3⟩
    | cont =>
      obtain ⟨σ3, H3, I3, n3⟩ := q3
      obtain ⟨m', hm, w3⟩ := hN σ3 H3 n3
      exact ⟨m', hm, σ3, H3, I3, w3⟩
    | brk => exact q3
    | ret v => exact q3
  | false =>
    rw [if_neg Bool.false_ne_true]
    exact wpAny_execs_nil ⟨σ1, H2, I2, q2⟩
end

/-! ### what a loop or a comprehension walks -/
/-- at turn i: it yields x (the heap may grow), or it stops -/
structure It where
  go : Nat → Hp → Prop
  yld : Nat → Hp → V → Hp → Prop
  stop : Nat → Hp → Prop
/-- the iterator's own objects may turn: they are not the frame's, not pinned, younger than the entry (or a comprehension's own) -/
def FpOk (X : Cx) (pins : List (Addr × Obj)) (H : Hp) (b : Addr) : Prop :=
  H b = none ∧ b ≠ X.env.locals ∧ b ∉ X.fs ∧ (b ∈ X.ex ∨ X.s₀.heap.objs.size ≤ b) ∧ (∀ x c, X.env.cells.lookup x = some c → c ≠ b) ∧ ∀ p ∈ X.pn ++ pins, p.1 ≠ b
theorem Inv.fpOk {X : Cx} {pins : List (Addr × Obj)} {σ : St} {H H' : Hp} {s : Shared} {b : Addr} (I : Inv X pins σ H s) (hb : s.heap.objs.size ≤ b) (hn : H' b = none) : FpOk X pins H' b := by
  refine ⟨hn, Nat.ne_of_gt (Nat.lt_of_lt_of_le I.lt hb), I.nofs hb, .inr (Nat.le_trans I.sz hb), fun x c e z => ?_, fun p hp z => ?_⟩
  · obtain ⟨v, q⟩ := I.cell x c e
    exact absurd (Nat.lt_of_lt_of_le q.lt (by rw [z]; exact hb)) (Nat.lt_irrefl _)
  · exact absurd (Nat.lt_of_lt_of_le (Heap.lt_size (I.pin p hp).1) (by rw [z]; exact hb)) (Nat.lt_irrefl _)
structure Turn (P : Program) (w : World) (K : PySem.W.Frag) (tg : Expr) (J : It) (fp : List Addr) (it : Addr) (tn : Nat → Heap → Prop) : Prop where
  mem : it ∈ fp
  obj : ∀ i h, tn i h → ∀ b ∈ fp, ∃ o, h.get? b = some o ∧ ∀ v, o.data ≠ .cell v
  keep : ∀ i h h', tn i h → (∀ b ∈ fp, ∀ o, h.get? b = some o → h'.get? b = some o) → tn i h'
  item : ∀ (X : Cx), X.prog = P → X.w = w → X.K = K → X.calm = true → ∀ (i : Nat) (pins : List (Addr × Obj)) (s : Shared) (σ : St) (H : Hp) (E : Value → Shared → Prop), Inv X pins σ H s → (∀ b ∈ fp, FpOk X pins H b) → tn i s.heap → J.go i H →
    wpAny (model P w) X.A (pyNext (.ref it)) (fun r s1 => ∃ u, r = some u ∧
      wpAny (model P w) X.A (letOwnedTupleGo tg (.ref it) u) (fun _ s2 => ∃ x H', Inv X pins σ H' s2 ∧ RelV x u ∧ J.yld i H x H' ∧ tn (i + 1) s2.heap ∧ ∀ b ∈ fp, H' b = none) E s1) E s
  done : ∀ (X : Cx), X.prog = P → X.w = w → X.K = K → X.calm = true → ∀ (i : Nat) (pins : List (Addr × Obj)) (s : Shared) (σ : St) (H : Hp) (E : Value → Shared → Prop), Inv X pins σ H s → (∀ b ∈ fp, FpOk X pins H b) → tn i s.heap → J.stop i H →
    wpAny (model P w) X.A (pyNext (.ref it)) (fun r s1 => r = none ∧ Inv X pins σ H s1) E s
  self : ∀ (A : Around) (i : Nat) (s : Shared) (Q : Value → Shared → Prop) (E : Value → Shared → Prop), tn i s.heap → Q (.ref it) s → wpAny (model P w) A (pyIter (.ref it)) Q E s
abbrev TI := St → Hp → (It → Hp → Prop) → Prop
/-- an iterator has come -/
def PIE (X : Cx) (pins : List (Addr × Obj)) (σ : St) (tg : Expr) (R : It → Hp → Prop) (itv : Value) (s2 : Shared) : Prop :=
  ∃ (it : Addr) (fp : List Addr) (tn : Nat → Heap → Prop) (J : It) (H' : Hp), itv = .ref it ∧ Inv X pins σ H' s2 ∧ Turn X.prog X.w X.K tg J fp it tn ∧ tn 0 s2.heap ∧ (∀ b ∈ fp, FpOk X pins H' b) ∧ R J H'
def PI (X : Cx) (tg iter : Expr) (wi : TI) : Prop :=
  ∀ (pins : List (Addr × Obj)) (s : Shared) (σ : St) (H : Hp) (R : It → Hp → Prop), Inv X pins σ H s → wi σ H R →
    wpAny (model X.prog X.w) X.A (eval iter X.env) (fun v s1 => wpAny (model X.prog X.w) X.A (pyIter v) (PIE X pins σ tg R) X.xe s1) X.xe s

/-- the step ahead of the store is nothing for an iterator that keeps no tuple -/
theorem go_of {M : Model} {A : Around} {E : Value → Shared → Prop} {s : Shared} {tg : Expr} {it : Addr} {u : Value} {o : Obj} {n : String} {vs : Array Value} {Q : Unit → Shared → Prop} (ho : s.heap.get? it = some o) (hc : o.cls = .type n) (hd : o.data = .fields vs)
    (hn : ["enumerate", "zip", "dict_itemiterator", "dict_reverseitemiterator", "odict_iterator", "itertools.zip_longest", "itertools.pairwise"].contains n = false) (hQ : Q () s) : wpAny M A (letOwnedTupleGo tg (.ref it) u) Q E s := by
  unfold letOwnedTupleGo
  cases tg <;> first
    | exact wpAny_pure hQ
    | (cases u <;> first
        | exact wpAny_pure hQ
        | (refine wpAny_bind (wpAny_load ho ?_)
           rw [hc, hd]
           show wpAny M A (if (["enumerate", "zip", "dict_itemiterator", "dict_reverseitemiterator", "odict_iterator", "itertools.zip_longest", "itertools.pairwise"].contains n && vs[0]? == some (rawInt _)) = true then _ else _) Q E s
           rw [if_neg (by intro h; rw [hn, Bool.false_and] at h; cases h)]
           exact wpAny_pure hQ))

/-- the list at a, as it stands at each turn (a loop may append to it) -/
def Itl (K : PySem.W.Frag) (a : Addr) : It :=
  ⟨fun i H => ∃ xs x, SqL K H a xs ∧ xs[i]? = some x, fun i H x H' => H' = H ∧ ∀ xs, SqL K H a xs → xs[i]? = some x, fun i H => ∃ xs, SqL K H a xs ∧ xs.length ≤ i⟩
def Itt (K : PySem.W.Frag) (a : Addr) : It :=
  ⟨fun i H => ∃ xs x, SqT K H a xs ∧ xs[i]? = some x, fun i H x H' => H' = H ∧ ∀ xs, SqT K H a xs → xs[i]? = some x, fun i H => ∃ xs, SqT K H a xs ∧ xs.length ≤ i⟩
/-- lo, lo + 1, .. (n of them) -/
def Itr (lo : Int) (n : Nat) : It := ⟨fun i _ => i < n, fun i H x H' => H' = H ∧ x = .int (lo + i), fun i _ => n ≤ i⟩
theorem turn_list {P : Program} {w : World} {K : PySem.W.Frag} {tg : Expr} (a it : Addr) : Turn P w K tg (Itl K a) [it] it (fun i h => h.IsListIter it a i) where
  mem := by simp
  obj := fun i h st b hb => by
    have e : b = it := by simpa using hb
    subst e
    obtain ⟨o, e, c, d⟩ := st
    exact ⟨o, e, fun v z => by rw [d] at z; cases z⟩
  keep := fun i h h' st k => st.at fun o e => k it (by simp) o e
  item := by
    intro X hP hw hK hc i pins s σ H E I hf st hg
    subst hP hw hK
    obtain ⟨xs, x, hq, hx⟩ := hg
    obtain ⟨its, rv, p, hz⟩ := I.list hq
    obtain ⟨u, hu, ru⟩ := rv.get hx
    obtain ⟨f0, f1, f2, f3, f4, f5⟩ := hf it (by simp)
    refine wpAny_pyNext_list_item st p.isList (x := u) (by simpa using hu) fun h' st' sb => ?_
    have I1 : Inv X pins σ H { s with heap := h' } := I.turned (t' := s.toks) (fun b o hb e => (sb.2 b hb).trans e) f0 f1 f3 f4 f5
    obtain ⟨o, e, c, d⟩ := id st'
    exact ⟨u, rfl, go_of (s := { s with heap := h' }) e c d (by decide) ⟨x, H, I1, ru, ⟨rfl, fun ys hy => by rw [I.list_inj hy hq]; exact hx⟩, st', fun b hb => (hf b hb).1⟩⟩
  done := by
    intro X hP hw hK hc i pins s σ H E I hf st hg
    subst hP hw hK
    obtain ⟨xs, hq, hx⟩ := hg
    obtain ⟨its, rv, p, hz⟩ := I.list hq
    obtain ⟨f0, f1, f2, f3, f4, f5⟩ := hf it (by simp)
    have hl := rv.length
    exact wpAny_pyNext_list_end (I.ok.hd hc) st p.isList (by simp; omega) fun h' eb => ⟨rfl, I.turned (t' := s.toks) (fun b o hb e => eb b o hb e) f0 f1 f3 f4 f5⟩
  self := fun _ _ _ _ _ st h => wpAny_pyIter_listiter st h
theorem turn_tuple {P : Program} {w : World} {K : PySem.W.Frag} {tg : Expr} (a it : Addr) : Turn P w K tg (Itt K a) [it] it (fun i h => h.IsTupleIter it a i) where
  mem := by simp
  obj := fun i h st b hb => by
    have e : b = it := by simpa using hb
    subst e
    obtain ⟨o, e, c, d⟩ := st
    exact ⟨o, e, fun v z => by rw [d] at z; cases z⟩
  keep := fun i h h' st k => st.at fun o e => k it (by simp) o e
  item := by
    intro X hP hw hK hc i pins s σ H E I hf st hg
    subst hP hw hK
    obtain ⟨xs, x, hq, hx⟩ := hg
    obtain ⟨its, rv, p, hz⟩ := I.tuple hq
    obtain ⟨u, hu, ru⟩ := rv.get hx
    obtain ⟨f0, f1, f2, f3, f4, f5⟩ := hf it (by simp)
    refine wpAny_pyNext_tuple_item st (show s.heap.IsTuple a its.toArray from p) (x := u) (by simpa using hu) fun h' st' sb => ?_
    have I1 : Inv X pins σ H { s with heap := h' } := I.turned (t' := s.toks) (fun b o hb e => (sb.2 b hb).trans e) f0 f1 f3 f4 f5
    obtain ⟨o, e, c, d⟩ := id st'
    exact ⟨u, rfl, go_of (s := { s with heap := h' }) e c d (by decide) ⟨x, H, I1, ru, ⟨rfl, fun ys hy => by rw [I.tuple_inj hy hq]; exact hx⟩, st', fun b hb => (hf b hb).1⟩⟩
  done := by
    intro X hP hw hK hc i pins s σ H E I hf st hg
    subst hP hw hK
    obtain ⟨xs, hq, hx⟩ := hg
    obtain ⟨its, rv, p, hz⟩ := I.tuple hq
    obtain ⟨f0, f1, f2, f3, f4, f5⟩ := hf it (by simp)
    have hl := rv.length
    exact wpAny_pyNext_tuple_end (I.ok.hd hc) st (show s.heap.IsTuple a its.toArray from p) (by simp; omega) fun h' eb => ⟨rfl, I.turned (t' := s.toks) (fun b o hb e => eb b o hb e) f0 f1 f3 f4 f5⟩
  self := fun _ _ _ _ _ st h => wpAny_pyIter_tupleiter st h
theorem turn_range {P : Program} {w : World} {K : PySem.W.Frag} {tg : Expr} (it : Addr) (lo : Int) (n : Nat) : Turn P w K tg (Itr lo n) [it] it (fun i h => IsRangeIter h it (lo + (i : Nat) * 1) ((n : Int) - (i : Nat)) 1) where
  mem := by simp
  obj := fun i h st b hb => by
    have e : b = it := by simpa using hb
    subst e
    exact ⟨_, st, fun v z => by
      have z' : Data.fields _ = Data.cell v := z
      cases z'⟩
  keep := fun i h h' st k => k it (by simp) _ st
  item := by
    intro X hP hw hK hc i pins s σ H E I hf st hg
    subst hP hw hK
    obtain ⟨f0, f1, f2, f3, f4, f5⟩ := hf it (by simp)
    have W := Walks.range (prog := X.prog) (w := X.w) (I.ok.hd hc) it lo 1 n
    refine W.item i s _ _ hg st fun v h' tk hv st' kk => ?_
    obtain ⟨t, rfl⟩ := hv
    have I1 : Inv X pins σ H { s with heap := h', toks := tk } := I.turned (fun b o hb e => kk b o (by simpa using hb) e) f0 f1 f3 f4 f5
    refine ⟨_, rfl, go_of (s := { s with heap := h', toks := tk }) (n := "range_iterator") st' rfl rfl (by decide) ⟨.int (lo + i), H, I1, ⟨t, ?_⟩, ⟨rfl, rfl⟩, st', fun b hb => (hf b hb).1⟩⟩
    rw [Int.mul_one]
  done := by
    intro X hP hw hK hc i pins s σ H E I hf st hg
    subst hP hw hK
    obtain ⟨f0, f1, f2, f3, f4, f5⟩ := hf it (by simp)
    exact wpAny_pyNext_range_end (I.ok.hd hc) st (by have : n ≤ i := hg; omega) fun h' eb => ⟨rfl, I.turned (t' := s.toks) (fun b o hb e => eb b o hb e) f0 f1 f3 f4 f5⟩
  self := fun _ _ _ _ _ st h => wpAny_pyIter_rangeiter st h
end L2

namespace L2
open PySem PySem.Spec PyProof.Rows
section
variable {X : Cx} {tg : Expr}
def iList (K : PySem.W.Frag) (tl : TE) : TI := fun σ H R => tl σ H fun x H1 => ∃ a, x = .ref a ∧ (∃ xs, SqL K H1 a xs) ∧ R (Itl K a) H1
def iTup (K : PySem.W.Frag) (tl : TE) : TI := fun σ H R => tl σ H fun x H1 => ∃ a, x = .ref a ∧ (∃ xs, SqT K H1 a xs) ∧ R (Itt K a) H1
theorem pi_list {l : Expr} {tl : TE} (hl : PE X l tl) : PI X tg l (iList X.K tl) := by
  intro pins s σ H R I h
  refine thn (hl pins s σ H _ I h) fun v s1 ⟨x, H1, I1, r1, q1⟩ => ?_
  obtain ⟨a, e, ⟨xs, hq⟩, q⟩ := q1
  subst e
  cases r1
  obtain ⟨its, rv, p, hz⟩ := I1.list hq
  refine wpAny_pyIter_list p.isList ?_
  refine ⟨s1.heap.objs.size, [s1.heap.objs.size], _, _, H1, rfl, I1.kept (t' := s1.toks) fun b o e => Heap.get?_push_of_some _ e, turn_list a _, ⟨_, Heap.get?_push_size _ rfl, rfl, rfl⟩, fun b hb => ?_, q⟩
  have e : b = s1.heap.objs.size := by simpa using hb
  subst e
  exact I1.fpOk (Nat.le_refl _) (I1.hok.fresh (Nat.le_refl _))
theorem pi_tup {l : Expr} {tl : TE} (hl : PE X l tl) : PI X tg l (iTup X.K tl) := by
  intro pins s σ H R I h
  refine thn (hl pins s σ H _ I h) fun v s1 ⟨x, H1, I1, r1, q1⟩ => ?_
  obtain ⟨a, e, ⟨xs, hq⟩, q⟩ := q1
  subst e
  cases r1
  obtain ⟨its, rv, p, hz⟩ := I1.tuple hq
  refine wpAny_pyIter_tuple (show s1.heap.IsTuple a its.toArray from p) ?_
  refine ⟨s1.heap.objs.size, [s1.heap.objs.size], _, _, H1, rfl, I1.kept (t' := s1.toks) fun b o e => Heap.get?_push_of_some _ e, turn_tuple a _, ⟨_, Heap.get?_push_size _ rfl, rfl, rfl⟩, fun b hb => ?_, q⟩
  have e : b = s1.heap.objs.size := by simpa using hb
  subst e
  exact I1.fpOk (Nat.le_refl _) (I1.hok.fresh (Nat.le_refl _))
/-- a range object just made, walked -/
theorem range_it {pins : List (Addr × Obj)} {σ : St} {H : Hp} {s : Shared} {R : It → Hp → Prop} {E : Value → Shared → Prop} {lo hi : Int} {t u v : Tok} {tk : Nat} (I : Inv X pins σ H s) (h1 : -(2 ^ 62) ≤ lo) (h2 : lo < 2 ^ 62) (h3 : -(2 ^ 62) ≤ hi) (h4 : hi < 2 ^ 62)
    (q : R (Itr lo (hi - lo).toNat) H) : wpAny (model X.prog X.w) X.A (pyIter (.ref s.heap.objs.size)) (PIE X pins σ tg R) E { s with heap := s.heap.push { cls := .type "range", data := .fields #[.int lo t, .int hi u, .int 1 v] }, toks := tk } := by
  refine wpAny_pyIter_range (IsRange.new ..) (small_one h1 h2 h3 h4) ?_
  have I1 : Inv X pins σ H { s with heap := s.heap.push { cls := .type "range", data := .fields #[.int lo t, .int hi u, .int 1 v] }, toks := tk } := I.kept fun b o e => Heap.get?_push_of_some _ e
  refine ⟨(s.heap.push { cls := .type "range", data := .fields #[.int lo t, .int hi u, .int 1 v] }).objs.size, [(s.heap.push { cls := .type "range", data := .fields #[.int lo t, .int hi u, .int 1 v] }).objs.size], _, _, H, rfl,
    I1.kept (t' := tk) fun b o e => Heap.get?_push_of_some _ e, turn_range _ lo (hi - lo).toNat, ?_, fun b hb => ?_, q⟩
  · have e1 : lo + ((0 : Nat) : Int) * 1 = lo := by simp
    have e2 : (((hi - lo).toNat : Nat) : Int) - ((0 : Nat) : Int) = Builtin.Range.rangeSize lo hi 1 := by rw [rangeSize_one]; split <;> omega
    show IsRangeIter _ _ (lo + ((0 : Nat) : Int) * 1) ((((hi - lo).toNat : Nat) : Int) - ((0 : Nat) : Int)) 1
    rw [e1, e2]
    exact Heap.get?_push_size _ rfl
  · have e : b = (s.heap.push { cls := .type "range", data := .fields #[.int lo t, .int hi u, .int 1 v] }).objs.size := by simpa using hb
    subst e
    exact I1.fpOk (Nat.le_refl _) (I1.hok.fresh (Nat.le_refl _))
def iRng1 (ta : TA) : TI := fun σ H R => ta σ H fun vs H1 => ∃ j : Int, vs = [.int j] ∧ -(2 ^ 62) ≤ j ∧ j < 2 ^ 62 ∧ R (Itr 0 j.toNat) H1
def iRng2 (ta : TA) : TI := fun σ H R => ta σ H fun vs H1 => ∃ i j : Int, vs = [.int i, .int j] ∧ (-(2 ^ 62) ≤ i ∧ i < 2 ^ 62 ∧ -(2 ^ 62) ≤ j ∧ j < 2 ^ 62) ∧ R (Itr i (j - i).toNat) H1
theorem pi_range1 {a : Expr} {ta : TA} {p pos : Pos} (hg : Gl X "range") (hm : X.mg "range" = none) (ha : PA X [a] ta) (hs : starEach [a] X.env = [(false, eval a X.env)] := by rfl) : PI X tg (.Call (.Name "range" p) [a] [] pos) (iRng1 ta) := by
  intro pins s σ H R I h
  refine Call_ (ld_blt I hg hm boot_range (PyProof.Rows.callWith_type1 (thn (ha pos pins s σ H _ I h) fun us s1 ⟨vs, H1, I1, r1, q1⟩ => ?_) hs rfl))
  obtain ⟨j, e, q1, q2, q⟩ := q1
  subst e
  cases r1 with
  | cons r rr =>
    cases rr
    obtain ⟨t, rfl⟩ := r
    exact call_range_1 (range_it I1 (by omega) (by omega) q1 q2 (by simpa using q))
theorem pi_range2 {a b : Expr} {ta : TA} {p pos : Pos} (hg : Gl X "range") (hm : X.mg "range" = none) (ha : PA X [a, b] ta) (hs : starEach [a, b] X.env = [(false, eval a X.env), (false, eval b X.env)] := by rfl) (hs2 : starEach [b] X.env = [(false, eval b X.env)] := by rfl) :
    PI X tg (.Call (.Name "range" p) [a, b] [] pos) (iRng2 ta) := by
  intro pins s σ H R I h
  refine Call_ (ld_blt I hg hm boot_range (PyProof.Rows.callWith_type1 (thn (ha pos pins s σ H _ I h) fun us s1 ⟨vs, H1, I1, r1, q1⟩ => ?_) (by rw [hs, hs2]) (by rw [hs2]; rfl)))
  obtain ⟨i, j, e, ⟨q1, q2, q3, q4⟩, q⟩ := q1
  subst e
  cases r1 with
  | cons r rr =>
    cases rr with
    | cons r' rr =>
      cases rr
      obtain ⟨t, rfl⟩ := r
      obtain ⟨t', rfl⟩ := r'
      exact call_range_2 (range_it I1 q1 q2 q3 q4 q)

/-! ### for -/
/-- W: the invariant by the turn and a measure; N: what the body is to reach -/
def tFor (wi : TI) (g : TG) (tb : TS) : TS := fun D σ H => wi σ H fun J H1 => ∃ W : Nat → Nat → St → Hp → Prop, (∃ m, W 0 m σ H1) ∧ ∀ i m σ H, W i m σ H →
  (J.stop i H ∧ D.nx σ H) ∨ (J.go i H ∧ ∃ N : St → Hp → Prop, (∀ σ' H', N σ' H' → ∃ m', m' < m ∧ W (i + 1) m' σ' H') ∧ ∀ x H', J.yld i H x H' → g x σ H' fun σ2 H2 => tb { D with nx := N, ct := N, bk := D.nx } σ2 H2)
/-- the records at fp as they stand -/
def pinsAt (fp : List Addr) (h : Heap) : List (Addr × Obj) := fp.filterMap fun b => (h.get? b).map fun o => (b, o)
theorem mem_pinsAt {fp : List Addr} {h : Heap} {b : Addr} {o : Obj} (hb : b ∈ fp) (e : h.get? b = some o) : (b, o) ∈ pinsAt fp h := List.mem_filterMap.mpr ⟨b, hb, by rw [e]; rfl⟩
theorem of_pinsAt {fp : List Addr} {h : Heap} {p : Addr × Obj} (hp : p ∈ pinsAt fp h) : p.1 ∈ fp ∧ h.get? p.1 = some p.2 := by
  obtain ⟨b, hb, e⟩ := List.mem_filterMap.mp hp
  cases q : h.get? b with
  | none => rw [q] at e; cases e
  | some o =>
    rw [q] at e
    have e' : (b, o) = p := Option.some.inj e
    subst e'
    exact ⟨hb, q⟩
theorem Inv.pinned {pins : List (Addr × Obj)} {σ : St} {H : Hp} {s : Shared} {fp : List Addr} (I : Inv X pins σ H s) (hf : ∀ b ∈ fp, FpOk X pins H b) (ho : ∀ b ∈ fp, ∃ o, s.heap.get? b = some o ∧ ∀ v, o.data ≠ .cell v) : Inv X (pins ++ pinsAt fp s.heap) σ H s :=
  I.pins_of fun p hp => (List.mem_append.mp hp).elim (fun z => I.pin p (List.mem_append_right _ z)) fun z => by
    obtain ⟨hb, e⟩ := of_pinsAt z
    obtain ⟨f0, f1, f2, _⟩ := hf p.1 hb
    obtain ⟨o, e', d⟩ := ho p.1 hb
    rw [e] at e'; cases e'
    exact ⟨e, f0, f1, f2, d⟩
theorem Inv.unpinned {pins pl : List (Addr × Obj)} {σ : St} {H : Hp} {s : Shared} (I : Inv X (pins ++ pl) σ H s) : Inv X pins σ H s := I.pins_of fun p hp => I.pin p (List.mem_append_right _ (List.mem_append_left _ hp))
theorem ps_for {iter : Expr} {body : List Stmt} {wi : TI} {g : TG} {tb : TS} {pos : Pos} (hp : PassesOwn (model X.prog X.w) X.A X.env X.xe) (hc : X.calm = true) (hi : PI X tg iter wi) (hg : PG X tg g) (hb : PSs X body tb)
    (hs : ∀ x, foldedSetIterable iter X.env x = pure x := by intro _; rfl) : PS X (.For tg iter body [] pos) (tFor wi g tb) := by
  intro pins s σ H D I h
  refine wpAny_For (thn (hi pins s σ H _ I h) fun v s1 h1 => thn h1 fun itv s2 h2 => ?_) hs
  obtain ⟨it, fp, tn, J, H2, e, I2, T, st2, f2, W, ⟨m0, w0⟩, turn⟩ := h2
  subst e
  -- what stays true of the iterator's objects through the loop
  have stat : ∀ {H' : Hp}, (∀ b ∈ fp, H' b = none) → ∀ b ∈ fp, FpOk X pins H' b := fun hn b hb => ⟨hn b hb, (f2 b hb).2⟩
  refine codeAny_forLoop_any (fun n s' => ∃ i σ' H', Inv X pins σ' H' s' ∧ tn i s'.heap ∧ (∀ b ∈ fp, H' b = none) ∧ W i n σ' H') ?_ m0 ⟨0, σ, H2, I2, st2, fun b hb => (f2 b hb).1, w0⟩
  rintro n s3 ⟨i, σ3, H3, I3, st3, fr3, w3⟩
  rcases turn i n σ3 H3 w3 with ⟨stop, qn⟩ | ⟨go, N, hN, step⟩
  · refine wpAny_passesOwn hp (thn (T.done X rfl rfl rfl hc i pins s3 σ3 H3 X.xe I3 (stat fr3) st3 stop) fun r s4 ⟨hr, I4⟩ => ?_)
    subst hr
    exact wpAny_execs_nil ⟨σ3, H3, I4, qn⟩
  · refine wpAny_passesOwn hp (thn (T.item X rfl rfl rfl hc i pins s3 σ3 H3 X.xe I3 (stat fr3) st3 go) fun r s4 ⟨u, hr, h4⟩ => ?_)
    subst hr
    refine wpAny_passesOwn hp (thn h4 fun _ s5 ⟨x, H5, I5, r5, y5, st5, fr5⟩ => ?_)
    have I5' := I5.pinned (stat fr5) (T.obj _ _ st5)
    refine wpAny_passesOwn hp (thn (hg _ s5 σ3 H5 x u _ I5' r5 (step x H5 y5)) fun _ s6 ⟨σ6, H6, I6, q6⟩ => ?_)
    refine wpAny_passesOwn hp (thn (hb _ s6 σ6 H6 _ I6 q6) fun f s7 q7 => ?_)
    have again : ∀ {σ7 : St} {H7 : Hp}, Inv X (pins ++ pinsAt fp s5.heap) σ7 H7 s7 → N σ7 H7 → ∃ m, m < n ∧ ∃ i σ' H', Inv X pins σ' H' s7 ∧ tn i s7.heap ∧ (∀ b ∈ fp, H' b = none) ∧ W i m σ' H' := fun {σ7 H7} I7 n7 => by
      obtain ⟨m', hm, w7⟩ := hN σ7 H7 n7
      refine ⟨m', hm, i + 1, σ7, H7, I7.unpinned, T.keep _ _ _ st5 fun b hb o e => (I7.pin (b, o) (List.mem_append_right _ (List.mem_append_right _ (mem_pinsAt hb e)))).1, fun b hb => ?_, w7⟩
      obtain ⟨o, e, d⟩ := T.obj _ _ st5 b hb
      exact (I7.pin (b, o) (List.mem_append_right _ (List.mem_append_right _ (mem_pinsAt hb e)))).2.1
    cases f with
    | next => obtain ⟨σ7, H7, I7, n7⟩ := q7; exact again I7 n7
    | cont => obtain ⟨σ7, H7, I7, n7⟩ := q7; exact again I7 n7
    | brk => obtain ⟨σ7, H7, I7, q7⟩ := q7; exact ⟨σ7, H7, I7.unpinned, q7⟩
    | ret v => obtain ⟨x7, σ7, H7, I7, r7, q7⟩ := q7; exact ⟨x7, σ7, H7, I7.unpinned, r7, q7⟩
end

/-! ### the forms one uses -/
/-- over a list that the body leaves as it is -/
theorem for_list {K : PySem.W.Frag} {a : Addr} {xs : List V} {g : TG} {tb : TS} {D : Ends} {σ : St} {H : Hp} (Pv : Nat → St → Hp → Prop) (h0 : Pv 0 σ H) (hl : ∀ i σ H, i ≤ xs.length → Pv i σ H → SqL K H a xs)
    (hs : ∀ i x σ H, xs[i]? = some x → Pv i σ H → g x σ H fun σ2 H2 => tb { D with nx := Pv (i + 1), ct := Pv (i + 1), bk := D.nx } σ2 H2) (hd : ∀ σ H, Pv xs.length σ H → D.nx σ H) :
    ∃ W : Nat → Nat → St → Hp → Prop, (∃ m, W 0 m σ H) ∧ ∀ i m σ H, W i m σ H →
      ((Itl K a).stop i H ∧ D.nx σ H) ∨ ((Itl K a).go i H ∧ ∃ N : St → Hp → Prop, (∀ σ' H', N σ' H' → ∃ m', m' < m ∧ W (i + 1) m' σ' H') ∧ ∀ x H', (Itl K a).yld i H x H' → g x σ H' fun σ2 H2 => tb { D with nx := N, ct := N, bk := D.nx } σ2 H2) := by
  refine ⟨fun i m σ H => m = xs.length - i ∧ i ≤ xs.length ∧ Pv i σ H, ⟨xs.length, by simp, Nat.zero_le _, h0⟩, ?_⟩
  rintro i m σ H ⟨rfl, hi, p⟩
  have q := hl i σ H hi p
  by_cases hlt : i < xs.length
  · refine .inr ⟨⟨xs, xs[i], q, by simp [hlt]⟩, Pv (i + 1), fun σ' H' p' => ⟨xs.length - (i + 1), by omega, rfl, hlt, p'⟩, fun x H' y => ?_⟩
    obtain ⟨e, y⟩ := y
    subst e
    exact hs i x σ _ (y xs q) p
  · have e : i = xs.length := by omega
    subst e
    exact .inl ⟨⟨xs, q, Nat.le_refl _⟩, hd σ H p⟩
theorem for_tup {K : PySem.W.Frag} {a : Addr} {xs : List V} {g : TG} {tb : TS} {D : Ends} {σ : St} {H : Hp} (Pv : Nat → St → Hp → Prop) (h0 : Pv 0 σ H) (hl : ∀ i σ H, i ≤ xs.length → Pv i σ H → SqT K H a xs)
    (hs : ∀ i x σ H, xs[i]? = some x → Pv i σ H → g x σ H fun σ2 H2 => tb { D with nx := Pv (i + 1), ct := Pv (i + 1), bk := D.nx } σ2 H2) (hd : ∀ σ H, Pv xs.length σ H → D.nx σ H) :
    ∃ W : Nat → Nat → St → Hp → Prop, (∃ m, W 0 m σ H) ∧ ∀ i m σ H, W i m σ H →
      ((Itt K a).stop i H ∧ D.nx σ H) ∨ ((Itt K a).go i H ∧ ∃ N : St → Hp → Prop, (∀ σ' H', N σ' H' → ∃ m', m' < m ∧ W (i + 1) m' σ' H') ∧ ∀ x H', (Itt K a).yld i H x H' → g x σ H' fun σ2 H2 => tb { D with nx := N, ct := N, bk := D.nx } σ2 H2) := by
  refine ⟨fun i m σ H => m = xs.length - i ∧ i ≤ xs.length ∧ Pv i σ H, ⟨xs.length, by simp, Nat.zero_le _, h0⟩, ?_⟩
  rintro i m σ H ⟨rfl, hi, p⟩
  have q := hl i σ H hi p
  by_cases hlt : i < xs.length
  · refine .inr ⟨⟨xs, xs[i], q, by simp [hlt]⟩, Pv (i + 1), fun σ' H' p' => ⟨xs.length - (i + 1), by omega, rfl, hlt, p'⟩, fun x H' y => ?_⟩
    obtain ⟨e, y⟩ := y
    subst e
    exact hs i x σ _ (y xs q) p
  · have e : i = xs.length := by omega
    subst e
    exact .inl ⟨⟨xs, q, Nat.le_refl _⟩, hd σ H p⟩
theorem for_range {lo : Int} {n : Nat} {g : TG} {tb : TS} {D : Ends} {σ : St} {H : Hp} (Pv : Nat → St → Hp → Prop) (h0 : Pv 0 σ H)
    (hs : ∀ i σ H, i < n → Pv i σ H → g (.int (lo + i)) σ H fun σ2 H2 => tb { D with nx := Pv (i + 1), ct := Pv (i + 1), bk := D.nx } σ2 H2) (hd : ∀ σ H, Pv n σ H → D.nx σ H) :
    ∃ W : Nat → Nat → St → Hp → Prop, (∃ m, W 0 m σ H) ∧ ∀ i m σ H, W i m σ H →
      ((Itr lo n).stop i H ∧ D.nx σ H) ∨ ((Itr lo n).go i H ∧ ∃ N : St → Hp → Prop, (∀ σ' H', N σ' H' → ∃ m', m' < m ∧ W (i + 1) m' σ' H') ∧ ∀ x H', (Itr lo n).yld i H x H' → g x σ H' fun σ2 H2 => tb { D with nx := N, ct := N, bk := D.nx } σ2 H2) := by
  refine ⟨fun i m σ H => m = n - i ∧ i ≤ n ∧ Pv i σ H, ⟨n, by simp, Nat.zero_le _, h0⟩, ?_⟩
  rintro i m σ H ⟨rfl, hi, p⟩
  by_cases hlt : i < n
  · refine .inr ⟨hlt, Pv (i + 1), fun σ' H' p' => ⟨n - (i + 1), by omega, rfl, hlt, p'⟩, fun x H' y => ?_⟩
    obtain ⟨e, y⟩ := y
    subst e y
    exact hs i σ _ hlt p
  · have e : i = n := by omega
    subst e
    exact .inl ⟨Nat.le_refl _, hd σ H p⟩
/-- while, by a word and a measure of the state -/
theorem while_by {c : TT} {tb : TS} {D : Ends} {σ : St} {H : Hp} (Pv : St → Hp → Prop) (μ : St → Hp → Nat) (h0 : Pv σ H)
    (hs : ∀ σ H, Pv σ H → c σ H fun b H1 => if b = true then tb { D with nx := fun σ' H' => Pv σ' H' ∧ μ σ' H' < μ σ H, ct := fun σ' H' => Pv σ' H' ∧ μ σ' H' < μ σ H, bk := D.nx } σ H1 else D.nx σ H1)
    (mono : ∀ σ H Q Q', (∀ b H1, Q b H1 → Q' b H1) → c σ H Q → c σ H Q') : tWhile c tb D σ H := by
  refine ⟨fun m σ H => m = μ σ H ∧ Pv σ H, ⟨_, rfl, h0⟩, ?_⟩
  rintro m σ H ⟨rfl, p⟩
  refine mono σ H _ _ (fun b H1 q => ?_) (hs σ H p)
  cases b with
  | true => exact ⟨_, fun σ' H' ⟨p', l⟩ => ⟨_, l, rfl, p'⟩, q⟩
  | false => exact q
end L2

namespace L2
open PySem PySem.Spec PyProof.Rows

abbrev R2 := V → V → Hp → VK → Prop
/-- a two-place operation on values: f is binaryOp op, inplaceOp op or compareOp op -/
def OpR (X : Cx) (f : Value → Value → Sem Value) (r : R2) : Prop :=
  ∀ (pins : List (Addr × Obj)) (s : Shared) (σ : St) (H : Hp) (x y : V) (v u : Value) (Q : VK), Inv X pins σ H s → RelV x v → RelV y u → r x y H Q →
    wpAny (model X.prog X.w) X.A (f v u) (EP X pins σ Q) X.xe s
/-- a one-place operation -/
def UnR (X : Cx) (f : Value → Sem Value) (r : V → Hp → VK → Prop) : Prop :=
  ∀ (pins : List (Addr × Obj)) (s : Shared) (σ : St) (H : Hp) (x : V) (v : Value) (Q : VK), Inv X pins σ H s → RelV x v → r x H Q →
    wpAny (model X.prog X.w) X.A (f v) (EP X pins σ Q) X.xe s
/-- a call of a value that is known (a builtin, a type) with values -/
def CallR (X : Cx) (f : Value) (r : List V → Hp → VK → Prop) : Prop :=
  ∀ (pins : List (Addr × Obj)) (s : Shared) (σ : St) (H : Hp) (xs : List V) (us : List Value) (Q : VK), Inv X pins σ H s → Vals xs us → r xs H Q →
    wpAny (model X.prog X.w) X.A (call f us) (EP X pins σ Q) X.xe s
/-- a value's truth -/
def TruR (X : Cx) (r : V → Hp → (Bool → Hp → Prop) → Prop) : Prop :=
  ∀ (pins : List (Addr × Obj)) (s : Shared) (σ : St) (H : Hp) (x : V) (v : Value) (Q : Bool → Hp → Prop), Inv X pins σ H s → RelV x v → r x H Q →
    wpAny (model X.prog X.w) X.A (truthy v) (TP X pins σ Q) X.xe s

def tOp (r : R2) (ta tb : TE) : TE := fun σ H Q => ta σ H fun x H1 => tb σ H1 fun y H2 => r x y H2 Q
def tUn (r : V → Hp → VK → Prop) (ta : TE) : TE := fun σ H Q => ta σ H fun x H1 => r x H1 Q
/-- ints in, under C, and a value out -/
def rI (C : Int → Int → Prop) (g : Int → Int → V) : R2 := fun x y H Q => ∃ i j, x = .int i ∧ y = .int j ∧ C i j ∧ Q (g i j) H
def rI0 (g : Int → Int → V) : R2 := fun x y H Q => ∃ i j, x = .int i ∧ y = .int j ∧ Q (g i j) H
def rU (g : Int → V) : V → Hp → VK → Prop := fun x H Q => ∃ i, x = .int i ∧ Q (g i) H

section
variable {X : Cx} {a b c : Expr} {ta tb tc : TE} {pos : Pos}

theorem binT (ha : PE X a ta) (hb : PE X b tb) {pins : List (Addr × Obj)} {s : Shared} {σ : St} {H : Hp} {R : V → V → Hp → Prop} (I : Inv X pins σ H s)
    (h : ta σ H fun x H1 => tb σ H1 fun y H2 => R x y H2) {Q : Value → Shared → Prop} {f : Value → Value → Sem Value}
    (hf : ∀ v u s2 x y H2, Inv X pins σ H2 s2 → RelV x v → RelV y u → R x y H2 → wpAny (model X.prog X.w) X.A (f v u) Q X.xe s2) :
    wpAny (model X.prog X.w) X.A (eval a X.env) (fun v s₁ => wpAny (model X.prog X.w) X.A (eval b X.env) (fun u s₂ => wpAny (model X.prog X.w) X.A (f v u) Q X.xe s₂) X.xe s₁) X.xe s := by
  refine thn (ha pins s σ H _ I h) fun v s1 ⟨x, H1, I1, r1, q1⟩ => ?_
  refine thn (hb pins s1 σ H1 _ I1 q1) fun u s2 ⟨y, H2, I2, r2, q2⟩ => ?_
  exact hf v u s2 x y H2 I2 r1 r2 q2

theorem pe_op {op : Operator} {r : R2} (ho : OpR X (binaryOp op) r) (ha : PE X a ta) (hb : PE X b tb) : PE X (.BinOp a op b pos) (tOp r ta tb) := by
  intro pins s σ H Q I h
  exact wpAny_BinOp (binT ha hb I h fun v u s2 x y H2 I2 rx ry q => ho pins s2 σ H2 x y v u Q I2 rx ry q)
theorem pe_un {op : UnaryOp} {r : V → Hp → VK → Prop} (ho : UnR X (unaryOp op) r) (ha : PE X a ta) : PE X (.UnaryOp op a pos) (tUn r ta) := by
  intro pins s σ H Q I h
  exact UnaryOp_ (thn (ha pins s σ H _ I h) fun v s1 ⟨x, H1, I1, r1, q1⟩ => ho pins s1 σ H1 x v Q I1 r1 q1)
/-! ### ints -/
theorem opI {f : Value → Value → Sem Value} {C : Int → Int → Prop} {g : Int → Int → Int}
    (rule : ∀ (i j : Int) (t u : Tok) (s : Shared) (Q : Value → Shared → Prop) (E : Value → Shared → Prop), C i j → Q (.int (g i j) s.toks) { s with toks := s.toks + 1 } → wpAny (model X.prog X.w) X.A (f (.int i t) (.int j u)) Q E s) :
    OpR X f (rI C fun i j => .int (g i j)) := by
  intro pins s σ H x y v u Q I rx ry h
  obtain ⟨i, j, rfl, rfl, hc, q⟩ := h
  obtain ⟨t, rfl⟩ := rx
  obtain ⟨t', rfl⟩ := ry
  exact rule i j t t' s _ _ hc ⟨.int (g i j), H, I.tok _, ⟨_, rfl⟩, q⟩
theorem opI0 {f : Value → Value → Sem Value} {g : Int → Int → Int}
    (rule : ∀ (i j : Int) (t u : Tok) (s : Shared) (Q : Value → Shared → Prop) (E : Value → Shared → Prop), Q (.int (g i j) s.toks) { s with toks := s.toks + 1 } → wpAny (model X.prog X.w) X.A (f (.int i t) (.int j u)) Q E s) :
    OpR X f (rI0 fun i j => .int (g i j)) := by
  intro pins s σ H x y v u Q I rx ry h
  obtain ⟨i, j, rfl, rfl, q⟩ := h
  obtain ⟨t, rfl⟩ := rx
  obtain ⟨t', rfl⟩ := ry
  exact rule i j t t' s _ _ ⟨.int (g i j), H, I.tok _, ⟨_, rfl⟩, q⟩
theorem opB0 {f : Value → Value → Sem Value} {g : Int → Int → Bool}
    (rule : ∀ (i j : Int) (t u : Tok) (s : Shared) (Q : Value → Shared → Prop) (E : Value → Shared → Prop), Q (.bool (g i j)) s → wpAny (model X.prog X.w) X.A (f (.int i t) (.int j u)) Q E s) :
    OpR X f (rI0 fun i j => .bl (g i j)) := by
  intro pins s σ H x y v u Q I rx ry h
  obtain ⟨i, j, rfl, rfl, q⟩ := h
  obtain ⟨t, rfl⟩ := rx
  obtain ⟨t', rfl⟩ := ry
  exact rule i j t t' s _ _ ⟨.bl (g i j), H, I, rfl, q⟩

def CDiv (i j : Int) : Prop := 0 < j ∧ j < 1073741824
def CPow (i j : Int) : Prop := 0 ≤ j ∧ j ≤ 1000000 ∧ i.natAbs < 2 ^ 64
def CMul (i j : Int) : Prop := (-(2 ^ 64) < i ∧ i < 2 ^ 64) ∨ (-(2 ^ 64) < j ∧ j < 2 ^ 64)
theorem CMul.ok {i j : Int} (h : CMul i j) : IntMulOk i j := by
  rcases h with ⟨h1, h2⟩ | ⟨h1, h2⟩
  · exact .of_left (intBits_le_64 h1 h2)
  · exact .of_right (intBits_le_64 h1 h2)
theorem op_add : OpR X (binaryOp .Add) (rI0 fun i j => .int (i + j)) := opI0 fun _ _ _ _ _ _ _ q => add_int q
theorem op_sub : OpR X (binaryOp .Sub) (rI0 fun i j => .int (i - j)) := opI0 fun _ _ _ _ _ _ _ q => sub_int q
theorem op_mul : OpR X (binaryOp .Mult) (rI CMul fun i j => .int (i * j)) := opI fun _ _ _ _ _ _ _ hc q => mul_int q hc.ok
/-- // by a positive divisor -/
theorem op_fdiv : OpR X (binaryOp .FloorDiv) (rI CDiv fun i j => .int (i / j)) := opI fun i j _ _ _ _ _ hc q => by
  have h1 : (0 : Int) < j := hc.1
  have h2 : j < 1073741824 := hc.2
  exact floordiv_int (by omega) (by rw [Int.fdiv_eq_ediv_of_nonneg i (by omega)]; exact q) (.inl (PyProof.noPylong_small (by omega)))
/-- % by a positive divisor of any size -/
theorem op_mod : OpR X (binaryOp .Mod) (rI (fun _ j => 0 < j) fun i j => .int (i % j)) := opI fun i j _ _ _ _ _ hc q => by
  have h1 : (0 : Int) < j := hc
  exact mod_int' (by omega) (by rw [Int.fmod_eq_emod_of_nonneg i (by omega)]; exact q)
theorem op_pow : OpR X (binaryOp .Pow) (rI CPow fun i j => .int (i ^ j.toNat)) := opI fun _ _ _ _ _ _ _ hc q => pow_int_small hc.1 hc.2.1 hc.2.2 q
theorem unI {f : Value → Sem Value} {g : Int → Int}
    (rule : ∀ (i : Int) (t : Tok) (s : Shared) (Q : Value → Shared → Prop) (E : Value → Shared → Prop), Q (.int (g i) s.toks) { s with toks := s.toks + 1 } → wpAny (model X.prog X.w) X.A (f (.int i t)) Q E s) :
    UnR X f (rU fun i => .int (g i)) := by
  intro pins s σ H x v Q I rx h
  obtain ⟨i, rfl, q⟩ := h
  obtain ⟨t, rfl⟩ := rx
  exact rule i t s _ _ ⟨.int (g i), H, I.tok _, ⟨_, rfl⟩, q⟩
theorem un_neg : UnR X (unaryOp .USub) (rU fun i => .int (-i)) := unI fun _ _ _ _ _ q => neg_int q
/-! ### bools among ints: n += (a < b) -/
end

/-! ### comparisons -/
/-- the scalars that == tells apart as data does -/
def scal : V → V → Bool
  | .non, .non => true | .non, .int _ => true | .int _, .non => true | .non, .bl _ => true | .bl _, .non => true | .non, .str _ => true | .str _, .non => true
  | .int _, .int _ => true | .bl _, .bl _ => true | .str _, .str _ => true | .byt _, .byt _ => true
  | .int _, .str _ => true | .str _, .int _ => true | .bl _, .str _ => true | .str _, .bl _ => true
  | _, _ => false
def rEq : R2 := fun x y H Q => scal x y = true ∧ Q (.bl (decide (x = y))) H
def rNe : R2 := fun x y H Q => scal x y = true ∧ Q (.bl (!decide (x = y))) H

theorem dec_int {i j : Int} : decide (V.int i = V.int j) = (i == j) := by
  rw [Bool.eq_iff_iff]
  simp
theorem dec_bl {i j : Bool} : decide (V.bl i = V.bl j) = (i == j) := by
  rw [Bool.eq_iff_iff]
  simp
theorem dec_str {i j : Str} : decide (V.str i = V.str j) = (i == j) := by
  rw [Bool.eq_iff_iff]
  simp
theorem dec_byt {i j : Array UInt8} : decide (V.byt i = V.byt j) = (i.toList == j.toList) := by
  rw [Bool.eq_iff_iff]
  cases i
  cases j
  simp

section
variable {X : Cx} {a b c : Expr} {ta tb tc : TE} {pos : Pos}
theorem fin_bl {pins : List (Addr × Obj)} {σ : St} {H : Hp} {s : Shared} {Q : VK} {k k' : Bool} (I : Inv X pins σ H s) (q : Q (.bl k) H) (e : k = k') : EP X pins σ Q (.bool k') s := by
  subst e
  exact ⟨.bl k, H, I, rfl, q⟩
theorem op_eq : OpR X (compareOp .Eq) rEq := by
  intro pins s σ H x y v u Q I rx ry h
  obtain ⟨hs, q⟩ := h
  cases x with
  | non =>
    cases rx
    cases y with
    | non => cases ry; exact PySem.EqNone.eq_none_none (fin_bl I q (by simp))
    | bl j => cases ry; exact PySem.EqNone.eq_none_bool (fin_bl I q (by simp))
    | int j => obtain ⟨t', rfl⟩ := ry; exact PySem.EqNone.eq_none_int (fin_bl I q (by simp))
    | str j => obtain ⟨t', rfl⟩ := ry; exact PySem.EqNone.eq_none_str (fin_bl I q (by simp))
    | _ => exact absurd (show false = true from hs) Bool.false_ne_true
  | bl i =>
    cases rx
    cases y with
    | non => cases ry; exact PySem.EqNone.eq_bool_none (fin_bl I q (by simp))
    | bl j => cases ry; exact eq_bool (fin_bl I q dec_bl)
    | str j => obtain ⟨t', rfl⟩ := ry; exact PySem.EqMixed.eq_bool_str (fin_bl I q (by simp))
    | _ => exact absurd (show false = true from hs) Bool.false_ne_true
  | int i =>
    obtain ⟨t, rfl⟩ := rx
    cases y with
    | non => cases ry; exact PySem.EqNone.eq_int_none (fin_bl I q (by simp))
    | int j => obtain ⟨t', rfl⟩ := ry; exact eq_int (fin_bl I q dec_int)
    | str j => obtain ⟨t', rfl⟩ := ry; exact PySem.EqMixed.eq_int_str (fin_bl I q (by simp))
    | _ => exact absurd (show false = true from hs) Bool.false_ne_true
  | str i =>
    obtain ⟨t, rfl⟩ := rx
    cases y with
    | non => cases ry; exact PySem.EqNone.eq_str_none (fin_bl I q (by simp))
    | bl j => cases ry; exact PySem.EqMixed.eq_str_bool (fin_bl I q (by simp))
    | int j => obtain ⟨t', rfl⟩ := ry; exact PySem.EqMixed.eq_str_int (fin_bl I q (by simp))
    | str j => obtain ⟨t', rfl⟩ := ry; exact eq_str (fin_bl I q dec_str)
    | _ => exact absurd (show false = true from hs) Bool.false_ne_true
  | byt i =>
    obtain ⟨t, rfl⟩ := rx
    cases y with
    | byt j => obtain ⟨t', rfl⟩ := ry; exact PySem.W.eq_bytes (fin_bl I q dec_byt)
    | _ => exact absurd (show false = true from hs) Bool.false_ne_true
  | _ => cases y <;> exact absurd (show false = true from hs) Bool.false_ne_true
theorem op_ne : OpR X (compareOp .NotEq) rNe := by
  intro pins s σ H x y v u Q I rx ry h
  obtain ⟨hs, q⟩ := h
  cases x with
  | non =>
    cases rx
    cases y with
    | non => cases ry; exact PySem.EqNone.ne_none_none (fin_bl I q (by simp))
    | bl j => cases ry; exact PySem.EqNone.ne_none_bool (fin_bl I q (by simp))
    | int j => obtain ⟨t', rfl⟩ := ry; exact PySem.EqNone.ne_none_int (fin_bl I q (by simp))
    | str j => obtain ⟨t', rfl⟩ := ry; exact PySem.EqNone.ne_none_str (fin_bl I q (by simp))
    | _ => exact absurd (show false = true from hs) Bool.false_ne_true
  | bl i =>
    cases rx
    cases y with
    | non => cases ry; exact PySem.EqNone.ne_bool_none (fin_bl I q (by simp))
    | bl j => cases ry; exact ne_bool (fin_bl I q (congrArg not dec_bl))
    | str j => obtain ⟨t', rfl⟩ := ry; exact PySem.EqMixed.ne_bool_str (fin_bl I q (by simp))
    | _ => exact absurd (show false = true from hs) Bool.false_ne_true
  | int i =>
    obtain ⟨t, rfl⟩ := rx
    cases y with
    | non => cases ry; exact PySem.EqNone.ne_int_none (fin_bl I q (by simp))
    | int j => obtain ⟨t', rfl⟩ := ry; exact ne_int (fin_bl I q (congrArg not dec_int))
    | str j => obtain ⟨t', rfl⟩ := ry; exact PySem.EqMixed.ne_int_str (fin_bl I q (by simp))
    | _ => exact absurd (show false = true from hs) Bool.false_ne_true
  | str i =>
    obtain ⟨t, rfl⟩ := rx
    cases y with
    | non => cases ry; exact PySem.EqNone.ne_str_none (fin_bl I q (by simp))
    | bl j => cases ry; exact PySem.EqMixed.ne_str_bool (fin_bl I q (by simp))
    | int j => obtain ⟨t', rfl⟩ := ry; exact PySem.EqMixed.ne_str_int (fin_bl I q (by simp))
    | str j => obtain ⟨t', rfl⟩ := ry; exact ne_str (fin_bl I q (congrArg not dec_str))
    | _ => exact absurd (show false = true from hs) Bool.false_ne_true
  | byt i =>
    obtain ⟨t, rfl⟩ := rx
    cases y with
    | byt j => obtain ⟨t', rfl⟩ := ry; exact PySem.W.ne_bytes (fin_bl I q (congrArg not dec_byt))
    | _ => exact absurd (show false = true from hs) Bool.false_ne_true
  | _ => cases y <;> exact absurd (show false = true from hs) Bool.false_ne_true

theorem op_lt : OpR X (compareOp .Lt) (rI0 fun i j => .bl (decide (i < j))) := opB0 fun _ _ _ _ _ _ _ q => lt_int q
theorem op_le : OpR X (compareOp .LtE) (rI0 fun i j => .bl (decide (i ≤ j))) := opB0 fun _ _ _ _ _ _ _ q => le_int q
theorem op_gt : OpR X (compareOp .Gt) (rI0 fun i j => .bl (decide (j < i))) := opB0 fun _ _ _ _ _ _ _ q => gt_int q
theorem op_ge : OpR X (compareOp .GtE) (rI0 fun i j => .bl (decide (j ≤ i))) := opB0 fun _ _ _ _ _ _ _ q => ge_int q
/-- is None, is not None: the right side a value none -/
theorem op_isN : OpR X (compareOp .Is) (fun x y H Q => y = .non ∧ Q (.bl (decide (x = .non))) H) := by
  intro pins s σ H x y v u Q I rx ry h
  obtain ⟨rfl, q⟩ := h
  cases ry
  refine is_none_gen (fin_bl I q ?_)
  cases x <;> first
    | (cases rx; rfl)
    | (obtain ⟨t, rfl⟩ := rx; rfl)
theorem nomark (b : Expr) {op : CmpOp} (h : op ≠ .In := by decide) (h2 : op ≠ .NotIn := by decide) : behindInMarks op b = false := by
  have e1 : (op == CmpOp.In) = false := by cases op <;> first | rfl | exact absurd rfl h
  have e2 : (op == CmpOp.NotIn) = false := by cases op <;> first | rfl | exact absurd rfl h2
  cases b <;> simp [behindInMarks, e1, e2]
/-- a comparison as a value; hm: nomark b, or (for in, not in) by with_unfolding_all rfl -/
theorem pe_cmpR {op : CmpOp} {r : R2} (ho : OpR X (compareOp op) r) (ha : PE X a ta) (hb : PE X b tb) (hm : behindInMarks op b = false) : PE X (.Compare a [op] [b] pos) (tOp r ta tb) := by
  intro pins s σ H Q I h
  exact wpAny_Compare1 (binT ha hb I h fun v u s2 x y H2 I2 rx ry q => ho pins s2 σ H2 x y v u Q I2 rx ry q) hm
/-- a reading of a value as a test -/
def tTest (t : TE) : TT := fun σ H Q => t σ H fun x H' => ∃ k, x = .bl k ∧ Q k H'
theorem pt_cmpR {op : CmpOp} {r : R2} (ho : OpR X (compareOp op) r) (ha : PE X a ta) (hb : PE X b tb) (hm : behindInMarks op b = false) : PT X (.Compare a [op] [b] pos) (tTest (tOp r ta tb)) := by
  intro pins s σ H Q I h
  refine wpAny_isTrue_Compare1 (thn (ha pins s σ H _ I h) fun v s1 ⟨x, H1, I1, r1, q1⟩ => thn (hb pins s1 σ H1 _ I1 q1) fun u s2 ⟨y, H2, I2, r2, q2⟩ =>
    thn (ho pins s2 σ H2 x y v u _ I2 r1 r2 q2) fun c s3 ⟨z, H3, I3, r3, k, e, q3⟩ => ?_) hm
  subst e
  cases r3
  exact wpAny_truthy_bool ⟨H3, I3, q3⟩
/-- a op1 b op2 c -/
def tChain (r r' : R2) (ta tb tc : TE) : TE := fun σ H Q => ta σ H fun x H1 => tb σ H1 fun y H2 => r x y H2 fun z H3 => ∃ k, z = .bl k ∧
  (if k = true then tc σ H3 fun w' H4 => r' y w' H4 Q else Q (.bl false) H3)
theorem pe_chain {op op' : CmpOp} {r r' : R2} (ho : OpR X (compareOp op) r) (ho' : OpR X (compareOp op') r') (ha : PE X a ta) (hb : PE X b tb) (hc : PE X c tc)
    (hm : lastMarks [op, op'] [b, c] = false := by with_unfolding_all rfl) : PE X (.Compare a [op, op'] [b, c] pos) (tChain r r' ta tb tc) := by
  intro pins s σ H Q I h
  refine Compare_chain (thn (ha pins s σ H _ I h) fun v s1 ⟨x, H1, I1, r1, q1⟩ => chain_link (thn (hb pins s1 σ H1 _ I1 q1) fun u s2 ⟨y, H2, I2, r2, q2⟩ =>
    thn (ho pins s2 σ H2 x y v u _ I2 r1 r2 q2) fun d s3 ⟨z, H3, I3, r3, k, e, q3⟩ => ?_)) hm
  subst e
  cases r3
  refine wpAny_truthy_bool ?_
  cases k with
  | false => exact ite_ff ⟨.bl false, H3, I3, rfl, q3⟩
  | true => exact ite_tt (chain_last (thn (hc pins s3 σ H3 _ I3 q3) fun w' s4 ⟨z', H4, I4, r4, q4⟩ => ho' pins s4 σ H4 y z' u w' Q I4 r2 r4 q4))
theorem pt_chain {op op' : CmpOp} {r r' : R2} (ho : OpR X (compareOp op) r) (ho' : OpR X (compareOp op') r') (ha : PE X a ta) (hb : PE X b tb) (hc : PE X c tc)
    (hm : lastMarks [op, op'] [b, c] = false := by with_unfolding_all rfl) : PT X (.Compare a [op, op'] [b, c] pos) (tTest (tChain r r' ta tb tc)) := by
  intro pins s σ H Q I h
  refine isTrue_chain (thn (ha pins s σ H _ I h) fun v s1 ⟨x, H1, I1, r1, q1⟩ => test_link (thn (hb pins s1 σ H1 _ I1 q1) fun u s2 ⟨y, H2, I2, r2, q2⟩ =>
    thn (ho pins s2 σ H2 x y v u _ I2 r1 r2 q2) fun d s3 ⟨z, H3, I3, r3, k, e, q3⟩ => ?_)) hm
  subst e
  cases r3
  refine wpAny_truthy_bool ?_
  cases k with
  | false =>
    obtain ⟨k', e', q'⟩ := q3
    cases e'
    exact ite_ff ⟨H3, I3, q'⟩
  | true =>
    refine ite_tt (test_last (thn (hc pins s3 σ H3 _ I3 q3) fun w' s4 ⟨z', H4, I4, r4, q4⟩ => thn (ho' pins s4 σ H4 y z' u w' _ I4 r2 r4 q4) fun d' s5 ⟨z2, H5, I5, r5, k2, e2, q5⟩ => ?_))
    subst e2
    cases r5
    exact wpAny_truthy_bool ⟨H5, I5, q5⟩

/-! ### truth -/
/-- a value's truth by the abstract heap -/
def TruV (K : PySem.W.Frag) (x : V) (H : Hp) (k : Bool) : Prop :=
  match x with
  | .non => k = false
  | .bl b => k = b
  | .int i => k = (i != 0)
  | .str y => y.length ≤ sizeLine ∧ k = ((y.length : Int) != 0)
  | .byt y => y.size ≤ sizeLine ∧ k = ((y.size : Int) != 0)
  | .ref p => (∃ xs, SqL K H p xs ∧ k = !xs.isEmpty) ∨ (∃ xs, SqT K H p xs ∧ k = !xs.isEmpty) ∨ ∃ kvs, H p = some (.dK kvs) ∧ k = !kvs.isEmpty
  | _ => False
theorem isEmpty_kv {κ : Type} {kvs : List (κ × V)} {vs : List (κ × Value)} (r : KV kvs vs) : (!vs.isEmpty) = !kvs.isEmpty := by
  cases r <;> rfl
theorem isEmpty_of {xs : List V} {its : List Value} (r : Vals xs its) : (!its.toArray.isEmpty) = !xs.isEmpty := by
  cases r <;> simp
theorem line63 : (sizeLine : Nat) < 2 ^ 63 := by rw [sizeLine_eq]; decide
theorem tru_ok : TruR X (fun x H Q => ∃ k, TruV X.K x H k ∧ Q k H) := by
  intro pins s σ H x v Q I rx h
  obtain ⟨k, e, q⟩ := h
  have hl := line63
  have hs : sizeLine = 16777216 := sizeLine_eq
  cases x with
  | non =>
    cases rx
    have e' : k = false := e
    subst e'
    exact truthy_none ⟨H, I, q⟩
  | bl b =>
    cases rx
    have e' : k = b := e
    subst e'
    exact wpAny_truthy_bool ⟨H, I, q⟩
  | int i =>
    obtain ⟨t, rfl⟩ := rx
    have e' : k = (i != 0) := e
    subst e'
    exact PySem.P.truthy_int ⟨H, I, q⟩
  | str y =>
    obtain ⟨t, rfl⟩ := rx
    obtain ⟨hy, e'⟩ : y.length ≤ sizeLine ∧ k = ((y.length : Int) != 0) := e
    subst e'
    exact PySem.P.truthy_str (by omega) ⟨H, I.tok _, q⟩
  | byt y =>
    obtain ⟨t, rfl⟩ := rx
    obtain ⟨hy, e'⟩ : y.size ≤ sizeLine ∧ k = ((y.size : Int) != 0) := e
    subst e'
    exact PySem.W.truthy_bytes (by omega) ⟨H, I.tok _, q⟩
  | ref p =>
    cases rx
    have e' : (∃ xs, SqL X.K H p xs ∧ k = !xs.isEmpty) ∨ (∃ xs, SqT X.K H p xs ∧ k = !xs.isEmpty) ∨ ∃ kvs, H p = some (.dK kvs) ∧ k = !kvs.isEmpty := e
    rcases e' with ⟨xs, hx, e'⟩ | ⟨xs, hx, e'⟩ | ⟨kvs, hx, e'⟩
    · subst e'
      obtain ⟨its, r, pl, hz⟩ := I.list hx
      have hlen := r.length
      exact wpAny_truthy_list pl.isList (by simp only [List.size_toArray]; omega) ⟨H, I.tok _, by rw [isEmpty_of r]; exact q⟩
    · subst e'
      obtain ⟨its, r, pl, hz⟩ := I.tuple hx
      have hlen := r.length
      exact truthy_tuple pl (by simp only [List.size_toArray]; omega) ⟨H, I.tok _, by rw [isEmpty_of r]; exact q⟩
    · subst e'
      obtain ⟨hz, hS, vs, r, m⟩ : kvs.length ≤ sizeLine ∧ (p == sysModules) = false ∧ ∃ vs, KV kvs vs ∧ s.heap.DictOf (mixKind X.prog X.w) p vs := I.hok p _ hx
      have hlen : kvs.length = vs.length := Paired.length r
      exact wpAny_truthy_dict hS m (by omega) ⟨H, I.tok _, by rw [isEmpty_kv r]; exact q⟩
  | _ => exact (show False from e).elim
/-- any expression whose test is its value's truth (a name, a call, a subscript, a field ..: he by fun _ => rfl) -/
theorem pt_truth (ha : PE X a ta) (he : ∀ whole, isTrue a X.env whole = (do let v ← whole; standAt a.pos; holding [v] (truthy v))) :
    PT X a (fun σ H Q => ta σ H fun x H' => ∃ k, TruV X.K x H' k ∧ Q k H') := by
  intro pins s σ H Q I h
  exact isTrue_plain (thn (ha pins s σ H _ I h) fun v s1 ⟨x, H1, I1, r1, q1⟩ => tru_ok pins s1 σ H1 x v Q I1 r1 q1) (he _)

/-! ### strs and bytes -/
/-! ### scalar builtins, by CallR -/
theorem vals1 {x : V} {us : List Value} (r : Vals [x] us) : ∃ u, us = [u] ∧ RelV x u := by
  cases r with
  | cons r1 r2 => cases r2; exact ⟨_, rfl, r1⟩
theorem vals2 {x y : V} {us : List Value} (r : Vals [x, y] us) : ∃ u w', us = [u, w'] ∧ RelV x u ∧ RelV y w' := by
  cases r with
  | cons r1 r2 =>
    cases r2 with
    | cons r3 r4 => cases r4; exact ⟨_, _, rfl, r1, r3⟩
theorem call_max2 (hc : X.calm = true) : CallR X (.builtin "max") (fun xs H Q => ∃ i j, xs = [.int i, .int j] ∧ Q (.int (if j > i then j else i)) H) := by
  intro pins s σ H xs us Q I r h
  obtain ⟨i, j, rfl, q⟩ := h
  obtain ⟨u, w', rfl, ⟨t, rfl⟩, ⟨t', rfl⟩⟩ := vals2 r
  refine max_two_ints (I.ok.hd hc) fun h' tk k => ⟨_, H, I.kept k, ?_, q⟩
  by_cases hj : j > i
  · rw [if_pos hj, if_pos hj]; exact ⟨_, rfl⟩
  · rw [if_neg hj, if_neg hj]; exact ⟨_, rfl⟩
theorem call_min2 (hc : X.calm = true) : CallR X (.builtin "min") (fun xs H Q => ∃ i j, xs = [.int i, .int j] ∧ Q (.int (if j < i then j else i)) H) := by
  intro pins s σ H xs us Q I r h
  obtain ⟨i, j, rfl, q⟩ := h
  obtain ⟨u, w', rfl, ⟨t, rfl⟩, ⟨t', rfl⟩⟩ := vals2 r
  refine min_two_ints (I.ok.hd hc) fun h' tk k => ⟨_, H, I.kept k, ?_, q⟩
  by_cases hj : j < i
  · rw [if_pos hj, if_pos hj]; exact ⟨_, rfl⟩
  · rw [if_neg hj, if_neg hj]; exact ⟨_, rfl⟩
theorem call_int1 : CallR X (.type "int") (fun xs H Q => (∃ i, xs = [.int i] ∧ Q (.int i) H) ∨ ∃ k, xs = [.bl k] ∧ Q (.int (if k then 1 else 0)) H) := by
  intro pins s σ H xs us Q I r h
  rcases h with ⟨i, rfl, q⟩ | ⟨k, rfl, q⟩
  · obtain ⟨u, rfl, t, rfl⟩ := vals1 r
    exact call_int_int ⟨.int i, H, I, ⟨_, rfl⟩, q⟩
  · obtain ⟨u, rfl, r1⟩ := vals1 r
    cases r1
    exact call_int_bool ⟨.int (if k then 1 else 0), H, I.tok _, ⟨_, rfl⟩, q⟩
end
end L2

namespace L2
open PySem PySem.Spec PyProof.Rows

/-! ### an instance, its attributes a map -/
structure ObjM (h : Heap) (x dx C : Addr) (mA : Str → Option Value) : Prop where
  obj : h.get? x = some (PySem.W.instObj C dx)
  ns : h.Ns1 dx mA
  ne : dx ≠ x

theorem lookIn_ns {h : Heap} {dx : Addr} {mA : Str → Option Value} (n : h.Ns1 dx mA) : ∃ od, h.get? dx = some od ∧ ∀ name, PySem.W.lookIn name od = some (mA name) := by
  obtain ⟨o, es, ep, ho, hd, hk, _, hm⟩ := n
  refine ⟨o, ho, fun name => ?_⟩
  have e := hm name
  unfold nsFind findBy at e
  rw [← Array.find?_toList] at e
  unfold PySem.W.lookIn
  rw [hd]
  dsimp only
  split
  · rename_i y q
    rw [q] at e
    exact congrArg some e
  · rename_i q
    rw [q] at e
    have a : es.toList.any (·.refKey) = false := by
      rw [List.any_eq_false]
      intro y hy
      obtain ⟨z, t, hkey⟩ := hk y (Array.mem_toList_iff.mp hy)
      simp [DictEntry.refKey, hkey]
    have a' : ¬ es.toList.any (·.refKey) = true := by rw [a]; exact Bool.false_ne_true
    rw [if_neg a']
    exact congrArg some e

theorem ObjM.look {h : Heap} {x dx C : Addr} {mA : Str → Option Value} (I : ObjM h x dx C mA) : ∃ od, PySem.W.InstAt h x (PySem.W.instObj C dx) C (some od) ∧ ∀ name, PySem.W.lookIn name od = some (mA name) :=
  let ⟨od, ho, hl⟩ := lookIn_ns I.ns
  ⟨od, ⟨I.obj, rfl, rfl, ho⟩, hl⟩

section
variable {prog : Program} {w : World} {A : Around} {E : Value → Shared → Prop} {s : Shared} {K : PySem.W.Frag} {x dx C f : Addr} {mA : Str → Option Value} {name : Str} {v : Value}

end

/-! ### the attributes as a list of pairs -/
theorem RelO.some_of {v : V} {o : Option Value} (r : RelO (some v) o) : ∃ u, o = some u ∧ RelV v u := by
  cases o with
  | none => exact (show False from r).elim
  | some u => exact ⟨u, rfl, r⟩
theorem RelO.none_of {o : Option Value} (r : RelO none o) : o = none := by
  cases o with
  | none => rfl
  | some u => exact (show False from r).elim
section
variable {P : Program} {w : World} {H H' : Hp} {h h' : Heap} {a C dx : Addr} {fs fs' : List (Str × V)}
theorem ins_get (hok : HOk P w H h) (e : H a = some (.ins C dx fs)) : ∃ mA, ObjM h a dx C mA ∧ (∀ f, RelO (fs.lookup f) (mA f)) ∧ PySem.Within mA (fs.map (·.1)) ∧ fs.length ≤ 1000 ∧ H dx = some (.own a) := by
  obtain ⟨d, z, ne, ob, mA, n, r, q⟩ := (show ObjOk P w H h a (.ins C dx fs) from hok a _ e)
  exact ⟨mA, ⟨ob, n, ne⟩, r, q, z, d⟩
end

/-! ### what of the text a class must have -/
structure Cls (K : PySem.W.Frag) (C : Addr) : Prop where
  pg : PySem.W.plainGet K C Str.empty = true
  hd : PySem.W.hasDictIn K C = true
  po : PySem.W.plainOver K C = true
  sa : PySem.W.findIn K (.ref C) "__setattr__" = some (some (.builtin "object.__setattr__"))
theorem Cls.get {K : PySem.W.Frag} {C : Addr} (c : Cls K C) (f : Str) : PySem.W.plainGet K C f = true := c.pg
/-- a constant of the class -/
structure Con (K : PySem.W.Frag) (C : Addr) (f : Str) (v : V) (u : Value) : Prop where
  at_ : PySem.W.findIn K (.ref C) f = some (some u)
  rel : RelV v u
  get : PySem.W.specialIn K u "__get__" = some none
  cp : PySem.W.copiedNames.contains f = false
/-- a method: a plain def of the class or of one above it -/
structure Meth (K : PySem.W.Frag) (C : Addr) (m : Str) (f : Addr) : Prop where
  at_ : PySem.W.findIn K (.ref C) m = some (some (.ref f))
  fn : PySem.W.isFn K (.ref f) = true
  kp : PySem.W.keepIn K (.ref f) = true

section
variable {X : Cx} {pins : List (Addr × Obj)} {σ : St} {H : Hp} {s : Shared} {a C dx : Addr} {fs : List (Str × V)} {f : Str} {v : V} {A : Around} {E : Value → Shared → Prop}

/-- a new instance, tracked, without attributes -/
theorem Inv.made (I : Inv X pins σ H s) : Inv X pins σ (upd (upd H s.heap.objs.size (.own (s.heap.objs.size + 1))) (s.heap.objs.size + 1) (.ins C s.heap.objs.size []))
    { s with heap := (s.heap.push PySem.W.emptyDict).push (PySem.W.instObj C s.heap.objs.size) } := by
  have e1 : (s.heap.push PySem.W.emptyDict).get? s.heap.objs.size = some PySem.W.emptyDict := Heap.get?_push_size s.heap rfl
  have e2 : ((s.heap.push PySem.W.emptyDict).push (PySem.W.instObj C s.heap.objs.size)).get? (s.heap.objs.size + 1) = some (PySem.W.instObj C s.heap.objs.size) := by
    have := Heap.get?_push_size (s.heap.push PySem.W.emptyDict) (o := PySem.W.instObj C s.heap.objs.size) rfl
    rwa [Heap.size_push] at this
  have e3 : (s.heap.push PySem.W.emptyDict).Ns s.heap.objs.size (fun _ => none) := ⟨PySem.W.emptyDict, #[], _, e1, rfl, (fun e he => absurd he (by simp)), fun _ => rfl⟩
  have I1 := I.laid (a := s.heap.objs.size) (o := .own (s.heap.objs.size + 1)) (h' := s.heap.push PySem.W.emptyDict) (t' := s.toks) (fun b u q => Heap.get?_push_of_some _ q) (Nat.le_refl _) ⟨_, e1⟩
  refine I1.laid (a := s.heap.objs.size + 1) (o := .ins C s.heap.objs.size []) (t' := s.toks) (fun b u q => Heap.get?_push_of_some _ q) (Nat.le_of_eq (Heap.size_push _ _)) ?_
  have ne : s.heap.objs.size ≠ s.heap.objs.size + 1 := Nat.ne_of_lt (Nat.lt_succ_self _)
  refine ⟨by rw [upd_ne ne, upd_same], Nat.zero_le _, ne, e2, fun _ => none, (Heap.Ns1.of_empty e3).at fun o q => Heap.get?_push_of_some _ q, fun _ => True.intro, fun y hy => absurd rfl hy⟩

end

/-! ### readings and rules -/
section
variable {X : Cx} {o e value : Expr} {f : Str} {pos pos' tpos : Pos} {ta tv : TE}
end

/-! ### isinstance -/
section
variable {X : Cx} {pins : List (Addr × Obj)} {σ : St} {H : Hp} {s : Shared} {A : Around} {E : Value → Shared → Prop} {Q : Value → Shared → Prop} {c : Value} {b : Bool}
/-- the type of a value, as the fragment's deciders take it; for an instance its class -/
inductive TyOf (K : PySem.W.Frag) (H : Hp) : V → Value → Prop where
  | non : TyOf K H .non (.type "NoneType")
  | bl (x : Bool) : TyOf K H (.bl x) (.type "bool")
  | int (i : Int) : TyOf K H (.int i) (.type "int")
  | str (x : Str) : TyOf K H (.str x) (.type "str")
  | flt (x : UInt64) : TyOf K H (.flt x) (.type "float")
  | lst {a : Addr} {xs : List V} (e : H a = some (.lst xs)) : TyOf K H (.ref a) (.type "list")
  | frz {a : Addr} {o : Obj} {xs : List V} (e : H a = some (.frz o (.lst xs))) : TyOf K H (.ref a) (.type "list")
  | tup {a : Addr} {xs : List V} (e : H a = some (.tup xs)) : TyOf K H (.ref a) (.type "tuple")
  | dK {a : Addr} {kvs : List (Key × V)} (e : H a = some (.dK kvs)) : TyOf K H (.ref a) (.type "dict")
  | dT {a : Addr} {kvs : List (List Key × V)} (e : H a = some (.dT kvs)) : TyOf K H (.ref a) (.type "dict")
  | ins {a C dx : Addr} {fs : List (Str × V)} (e : H a = some (.ins C dx fs)) (cl : Cls K C) (ha : PySem.W.findIn K (.ref C) "__class__" = some (some (.builtin "object.__class__")))
      (hn : PySem.W.specialIn K (.builtin "object.__class__") "__get__" = some (some (.builtin "getset_descriptor.__get__"))) (htk : PySem.W.takesIn K (.builtin "object.__class__") = some true)
      (hm : PySem.W.mroIn K C (.type "object") = some true) : TyOf K H (.ref a) (.ref C)
/-- isinstance(x, c) for one class c, a built-in or an own one: kitOne's answer -/
theorem isinst_ok {x : V} {u t : Value} (I : Inv X pins σ H s) (rx : RelV x u) (ty : TyOf X.K H x t) (e : PySem.W.kitOne X.K t c = some b) (h : ∀ tk, Q (.bool b) { s with toks := tk }) :
    wpAny (model X.prog X.w) A (call (.builtin "isinstance") [u, c]) Q E s := by
  cases ty with
  | non => cases (show u = Value.none from rx); exact PySem.W.kia_one PySem.W.kitx_none I.kIn True.intro e (fun z => nomatch z) h
  | bl y => cases (show u = Value.bool y from rx); exact PySem.W.kia_one PySem.W.kitx_bool I.kIn True.intro e (fun z => nomatch z) h
  | int i => obtain ⟨t, q⟩ := (show ∃ t, u = Value.int i t from rx); cases q; exact PySem.W.kia_one PySem.W.kitx_int I.kIn True.intro e (fun z => nomatch z) h
  | str y => obtain ⟨t, q⟩ := (show ∃ t, u = Value.str y t from rx); cases q; exact PySem.W.kia_one PySem.W.kitx_str I.kIn True.intro e (fun z => nomatch z) h
  | flt y => obtain ⟨t, q⟩ := (show ∃ t, u = Value.float y t from rx); cases q; exact PySem.W.kia_one PySem.W.kitx_float I.kIn True.intro e (fun z => nomatch z) h
  | @lst a xs ea =>
    cases (show u = Value.ref a from rx)
    obtain ⟨_, _, n, _, h1⟩ := (show ObjOk X.prog X.w H s.heap a (.lst xs) from I.hok a _ ea)
    exact PySem.W.kia_one PySem.W.kitx_list I.kIn ⟨_, h1, rfl⟩ e (fun z => nomatch z) h
  | @frz a ob xs ea =>
    cases (show u = Value.ref a from rx)
    obtain ⟨_, _, _, n, _, h1⟩ := (show ObjOk X.prog X.w H s.heap a (.frz ob (.lst xs)) from I.hok a _ ea)
    exact PySem.W.kia_one PySem.W.kitx_list I.kIn ⟨_, h1, rfl⟩ e (fun z => nomatch z) h
  | @tup a xs ea =>
    cases (show u = Value.ref a from rx)
    obtain ⟨_, _, _, p⟩ := (show ObjOk X.prog X.w H s.heap a (.tup xs) from I.hok a _ ea)
    obtain ⟨o, h1, h2, _⟩ := p
    exact PySem.W.kia_one PySem.W.kitx_tuple I.kIn ⟨o, h1, h2⟩ e (fun z => nomatch z) h
  | @dK a kvs ea =>
    cases (show u = Value.ref a from rx)
    obtain ⟨_, _, vs, _, p⟩ := (show ObjOk X.prog X.w H s.heap a (.dK kvs) from I.hok a _ ea)
    obtain ⟨o, es, ep, h1, h2, _⟩ := p
    exact PySem.W.kia_one PySem.W.kitx_dict I.kIn ⟨o, h1, h2.1⟩ e (fun z => nomatch z) h
  | @dT a kvs ea =>
    cases (show u = Value.ref a from rx)
    obtain ⟨_, _, xs, _, o, es, ep, h1, h2, _⟩ := (show ObjOk X.prog X.w H s.heap a (.dT kvs) from I.hok a _ ea)
    exact PySem.W.kia_one PySem.W.kitx_dict I.kIn ⟨o, h1, h2.1⟩ e (fun z => nomatch z) h
  | @ins a C dx fs ea cl ha hn htk hm =>
    cases (show u = Value.ref a from rx)
    obtain ⟨mA, O, _⟩ := ins_get I.hok ea
    obtain ⟨od, J, _⟩ := O.look
    exact PySem.W.kia_one (PySem.W.kitx_own (cl.get _) cl.hd ha hn htk hm) I.kIn J e (fun z => nomatch z) h
end
end L2

namespace L2
open PySem PySem.Spec PyProof.Rows

/-! ### room -/
structure Room (k : Nat) (A : Around) : Prop where
  hd : A.handled = none
  dp : A.depth + 3 * k + 5 < recursionLimit
  un : A.units + 16 * k + 200 < cLine
theorem Room.mono {j k : Nat} {A : Around} (r : Room k A) (h : j ≤ k) : Room j A := ⟨r.hd, by have := r.dp; omega, by have := r.un; omega⟩
theorem Room.deeper {k : Nat} {A : Around} (r : Room (k + 1) A) (env : Env) : Room k (A.deeper env) :=
  ⟨r.hd, by have := r.dp; show A.depth + 1 + 3 * k + 5 < _; omega, by have := r.un; show A.units + 3 + 16 * k + 200 < _; omega⟩
theorem Room.in1 {k : Nat} {A : Around} (r : Room (k + 1) A) : Room k A.in1 :=
  ⟨r.hd, by have := r.dp; show A.depth + 3 * k + 5 < _; omega, by have := r.un; show A.units + 1 + 16 * k + 200 < _; omega⟩
theorem Room.depth {k : Nat} {A : Around} (r : Room k A) : A.depth < recursionLimit := by have := r.dp; omega
theorem Room.units {k : Nat} {A : Around} (r : Room k A) : A.units + 64 < cLine := by have := r.un; omega
/-! ### argument lists and displays -/
def tNil : TA := fun _ H Q => Q [] H
def tCons (ta : TE) (tr : TA) : TA := fun σ H Q => ta σ H fun x H1 => tr σ H1 fun xs H2 => Q (x :: xs) H2
section
variable {X : Cx} {e : Expr} {es : List Expr} {te : TE} {t : TA} {pos : Pos}
theorem pa_nil : PA X [] tNil := fun _ _ _ _ H Q I h => Calls.spliced_nil ⟨[], H, I, .nil, h⟩
theorem pa_cons (ha : PE X e te) (hr : PA X es t) (hs : starEach (e :: es) X.env = (false, eval e X.env) :: starEach es X.env := by rfl) : PA X (e :: es) (tCons te t) := by
  intro pos pins s σ H Q I h
  rw [hs]
  show wpAny _ _ (spliced ((false, eval e X.env) :: backTo pos (starEach es X.env))) _ _ s
  refine Calls.spliced_cons (thn (ha pins s σ H _ I h) fun u s1 ⟨x, H1, I1, r1, q1⟩ => ?_)
  exact thn (hr pos pins s1 σ H1 _ I1 q1) fun us s2 ⟨xs, H2, I2, r2, q2⟩ => ⟨x :: xs, H2, I2, .cons r1 r2, q2⟩

/-- a tuple, a list of written items -/
def tTup (t : TA) : TE := fun σ H Q => t σ H fun xs H1 => xs.length ≤ sizeLine ∧ ∀ p, H1 p = none → Q (.ref p) (upd H1 p (.tup xs))
def tLst (t : TA) : TE := fun σ H Q => t σ H fun xs H1 => xs.length ≤ sizeLine ∧ ∀ p, H1 p = none → Q (.ref p) (upd H1 p (.lst xs))
theorem pe_tup {x1} (h : PA X es t) : PE X (.Tuple es x1 pos) (tTup t) := by
  intro pins s σ H Q I hq
  refine wpAny_Tuple_spliced (thn (h pos pins s σ H _ I hq) fun us s1 ⟨xs, H1, I1, r, z, q⟩ => ⟨by rw [← r.length]; exact z, ?_⟩)
  have hf : H1 s1.heap.objs.size = none := I1.hok.fresh (Nat.le_refl _)
  refine ⟨.ref s1.heap.objs.size, upd H1 s1.heap.objs.size (.tup xs), I1.laid (t' := s1.toks) (fun b u e => Heap.get?_push_of_some _ e) (Nat.le_refl _) ?_, rfl, q _ hf⟩
  exact ⟨z, us, r, ⟨_, Heap.get?_push_size _ rfl, rfl, _, rfl⟩⟩
theorem pe_lst (h : PA X es t) : PE X (.List es pos) (tLst t) := by
  intro pins s σ H Q I hq
  refine wpAny_List_spliced (thn (h pos pins s σ H _ I hq) fun us s1 ⟨xs, H1, I1, r, z, q⟩ => ⟨by rw [← r.length]; exact z, ?_⟩)
  have hf : H1 s1.heap.objs.size = none := I1.hok.fresh (Nat.le_refl _)
  refine ⟨.ref s1.heap.objs.size, upd H1 s1.heap.objs.size (.lst xs), I1.laid (t' := s1.toks) (fun b u e => Heap.get?_push_of_some _ e) (Nat.le_refl _) ?_, rfl, q _ hf⟩
  exact ⟨z, us, 0, r, Heap.get?_push_size _ rfl⟩
end

/-! ### what a def promises -/
/-- a def's promise: the bound arguments in the parameters' order, the heap, the wanted end, the wanted exception -/
abbrev Sp := List V → Hp → VK → XK → Prop
/-- how an exception lies behind a call (file 08 gives it): the callers' frames, abstract heap and state ahead of the call, the wish, the exception, the state -/
abbrev CXT := List Env → Hp → Shared → XK → Value → Shared → Prop

/-- the state at a call -/
structure Env0 (P : Program) (w : World) (K : PySem.W.Frag) (mg : Str → Option Value) (base : Heap) (A : Around) (outer : List Env) (s : Shared) (H : Hp) : Prop where
  frames : A.frames = some outer
  mod : Mod K mg base
  bs : ∀ b o, base.get? b = some o → s.heap.get? b = some o ∧ H b = none
  bsz : base.objs.size ≤ s.heap.objs.size
  funs : s.heap.FunFrames base outer
  frf : ∀ b ∈ frs outer, H b = none
  hok : HOk P w H s.heap
  bare : AllBare s.gens
/-- a call's end -/
def CE (outer : List Env) (P : Program) (w : World) (H : Hp) (s : Shared) (Q : VK) (u : Value) (s' : Shared) : Prop :=
  ∃ v H', s'.os = s.os ∧ AllBare s'.gens ∧ Un (frs outer) [] H H' s.heap s'.heap ∧ HOk P w H' s'.heap ∧ RelV v u ∧ Q v H'
def CR (CX : CXT) (outer : List Env) (P : Program) (w : World) (H : Hp) (s : Shared) (Q : VK) (E : XK) (r : Result) (s' : Shared) : Prop :=
  match r with
  | .ok (.ret u) => CE outer P w H s Q u s'
  | .ok _ => False
  | .error e => CX outer H s E e s'
structure FnOk (P : Program) (w : World) (K : PySem.W.Frag) (mg : Str → Option Value) (base : Heap) (CX : CXT) (k : Nat) (f : Addr) (fd : FuncData) (ps : List Str) (sp : Sp) : Prop where
  len : ∀ vs H Q E, sp vs H Q E → vs.length = ps.length
  run : ∀ (A : Around) (outer : List Env) (s : Shared) (H : Hp) (args : Args) (us : List Value) (vs : List V) (Q : VK) (E : XK), Room k A → Env0 P w K mg base A outer s H → BindsTo s fd args (ps.zip us) → Vals vs us → sp vs H Q E →
    codeAny (model P w) A (.call (.ref f) args) (CR CX outer P w H s Q E) s
theorem FnOk.mono {P : Program} {w : World} {K : PySem.W.Frag} {mg : Str → Option Value} {base : Heap} {CX : CXT} {j k : Nat} {f : Addr} {fd : FuncData} {ps : List Str} {sp : Sp} (F : FnOk P w K mg base CX j f fd ps sp) (h : j ≤ k) :
    FnOk P w K mg base CX k f fd ps sp := ⟨F.len, fun A outer s H args us vs Q E hr => F.run A outer s H args us vs Q E (hr.mono h)⟩
/-- a weaker promise -/
theorem FnOk.imp {P : Program} {w : World} {K : PySem.W.Frag} {mg : Str → Option Value} {base : Heap} {CX : CXT} {k : Nat} {f : Addr} {fd : FuncData} {ps : List Str} {sp sp' : Sp} (F : FnOk P w K mg base CX k f fd ps sp)
    (h : ∀ vs H Q E, sp' vs H Q E → sp vs H Q E) : FnOk P w K mg base CX k f fd ps sp' :=
  ⟨fun vs H Q E q => F.len vs H Q E (h _ _ _ _ q), fun A outer s H args us vs Q E hr he hb hv hs => F.run A outer s H args us vs Q E hr he hb hv (h _ _ _ _ hs)⟩

theorem Env0.in1 {P : Program} {w : World} {K : PySem.W.Frag} {mg : Str → Option Value} {base : Heap} {A : Around} {outer : List Env} {s : Shared} {H : Hp} (e : Env0 P w K mg base A outer s H) :
    Env0 P w K mg base A.in1 outer s H := ⟨e.frames, e.mod, e.bs, e.bsz, e.funs, e.frf, e.hok, e.bare⟩

section
variable {X : Cx} {pins : List (Addr × Obj)} {σ : St} {H : Hp} {s s' : Shared}
/-- from a body: what a callee wants -/
theorem Inv.env0 (I : Inv X pins σ H s) : Env0 X.prog X.w X.K X.mg X.base X.A X.stack s H :=
  ⟨I.ok.frames, I.ok.mod, I.bs, Nat.le_trans I.ok.bsz I.sz, I.stack, I.stkFree, I.hok, I.bare⟩
/-- behind a call -/
theorem Inv.after {Q : VK} {u : Value} (I : Inv X pins σ H s) (h : CE X.stack X.prog X.w H s Q u s') : EP X pins σ Q u s' := by
  obtain ⟨v, H', os, bare, un, hok, r, q⟩ := h
  obtain ⟨hh, g, d, t, os'⟩ := s'
  obtain rfl : os' = s.os := os
  exact ⟨v, H', I.call (h' := hh) (g' := g) (d' := d) (t' := t) (ch := []) un hok bare (fun b z => absurd z (by simp)), r, q⟩
end

/-! ### calls -/
/-- f(..): the written arguments, then the defaults dvs; E: what is wanted of an exception -/
def tCall (sp : Sp) (dvs : List V) (E : XK) (t : TA) : TE := fun σ H Q => t σ H fun vs H1 => sp (vs ++ dvs) H1 Q E
/-- how the parameters are bound: us the positional arguments, kw the keywords' values by name, ds the defaults that fill up -/
def Binds (K : PySem.W.Frag) (fd : FuncData) (ps : List Str) (ds : List Value) : Prop :=
  ∀ (s : Shared) (us : List Value), K.In s.heap → (us ++ ds).length = ps.length → BindsTo s fd ⟨us, []⟩ (ps.zip (us ++ ds))
/-- every parameter is given -/
theorem Binds.all {K : PySem.W.Frag} {fd : FuncData} {ps : List Str} (h : ∀ us : List Value, us.length = ps.length → bindArgs fd ⟨us, []⟩ = pure (ps.zip us)) : Binds K fd ps [] := fun s us _ hl => by
  rw [List.append_nil] at hl ⊢
  exact .of_eq (h us hl)

/-- an exception of a callee reaches what this body wants of exceptions -/
def Passes (CX : CXT) (X : Cx) (E : XK) : Prop := ∀ (pins : List (Addr × Obj)) (σ : St) (H : Hp) (s : Shared) (e : Value) (s' : Shared), Inv X pins σ H s → CX X.stack H s E e s' → X.xe e s'

section
variable {X : Cx} {CX : CXT} {k : Nat} {f C : Addr} {fd : FuncData} {ps : List Str} {sp : Sp} {dvs : List V} {ds : List Value} {E : XK} {x m : Str} {p pos apos : Pos} {e o : Expr} {es : List Expr} {ta : TE} {t : TA}

/-- the callee runs -/
theorem run_fn {pins : List (Addr × Obj)} {σ : St} {H : Hp} {s : Shared} {Q : VK} {us : List Value} {vs : List V} (F : FnOk X.prog X.w X.K X.mg X.base CX k f fd ps sp) (hr : Room k X.A) (hb : Binds X.K fd ps ds) (hd : Vals dvs ds) (hx : Passes CX X E)
    (I : Inv X pins σ H s) (r : Vals vs us) (h : sp (vs ++ dvs) H Q E) : wpAny (model X.prog X.w) X.A (call (.ref f) us) (EP X pins σ Q) X.xe s := by
  have r2 : Vals (vs ++ dvs) (us ++ ds) := r.append hd
  have hl : (us ++ ds).length = ps.length := by rw [← r2.length]; exact F.len _ _ _ _ h
  refine wpAny_call (codeAny_mono (F.run X.A X.stack s H ⟨us, []⟩ (us ++ ds) (vs ++ dvs) Q E hr I.env0 (hb s us I.kIn hl) r2 h) fun r s' hq => ?_)
  cases r with
  | error e => exact hx pins σ H s e s' I hq
  | ok fl =>
    cases fl with
    | ret u => exact I.after hq
    | next => exact False.elim hq
    | brk => exact False.elim hq
    | cont => exact False.elim hq

theorem pe_call (F : FnOk X.prog X.w X.K X.mg X.base CX k f fd ps sp) (hr : Room k X.A) (hg : Gl X x) (hm : X.mg x = some (.ref f)) (hk : PySem.W.keepIn X.K (.ref f) = true) (hb : Binds X.K fd ps ds) (hd : Vals dvs ds) (hx : Passes CX X E)
    (ha : PA X (e :: es) t) (hdb : (x == ("__debug__" : Str)) = false := by decide) (he : starEach (e :: es) X.env = (false, eval e X.env) :: starEach es X.env := by rfl) (hpl : (backTo pos (starEach es X.env)).any (·.1) = false := by rfl) :
    PE X (.Call (.Name x p) (e :: es) [] pos) (tCall sp dvs E t) := by
  intro pins s σ H Q I h
  refine wpAny_Call_Name_kw (ld_glob I hg hm ?_ hdb)
  refine PySem.W.callWith_K (h₀ := X.base) I.ok.mod.kin hk (thn (ha pos pins s σ H _ I h) fun us s1 ⟨vs, H1, I1, r, q⟩ => ⟨I1.kIn, ?_⟩) he hpl
  exact run_fn F hr hb hd hx I1 r q
/-- what a class must have to be made -/
structure Mk (K : PySem.W.Frag) (C f : Addr) : Prop where
  makes : PySem.W.makesIn K C = true
  init : PySem.W.findIn K (.ref C) "__init__" = some (some (.ref f))
  fn : PySem.W.isFn K (.ref f) = true
  kp : PySem.W.keepIn K (.ref C) = true

end

/-! ### keywords -/
section
variable {X : Cx} {CX : CXT} {k : Nat} {f C : Addr} {fd : FuncData} {ps ks : List Str} {sp : Sp} {E : XK} {x m : Str} {p pos apos kpos : Pos} {e o : Expr} {es : List Expr} {kws : List Keyword} {te ta : TE} {t tk : TA} {nm : Option Str}
/-- how a call with keywords binds: g puts the positional values us and the keywords' values ws (names ks) in the parameters' order, defaults among them -/
structure KBinds (K : PySem.W.Frag) (fd : FuncData) (ps ks : List Str) (g : List Value → List Value → List Value) (gV : List V → List V → List V) : Prop where
  to : ∀ (s : Shared) (us ws : List Value), K.In s.heap → (g us ws).length = ps.length → BindsTo s fd ⟨us, ks.zip ws⟩ (ps.zip (g us ws))
  rel : ∀ {vs : List V} {us : List Value} {zs : List V} {ws : List Value}, Vals vs us → Vals zs ws → Vals (gV vs zs) (g us ws)
variable {g : List Value → List Value → List Value} {gV : List V → List V → List V}
end

/-! ### a def's body keeps its promise -/
/-- names: the parameters first -/
structure FnScope (N P : List Str) (sc : Scope) : Prop where
  kind : sc.kind = .function
  co : sc.isCoroutine = false
  gen : sc.isGenerator = false
  nd : N.Nodup
  pre : N.take P.length = P
  par : ∀ x ∈ P, sc.names.lookup x = some .local ∨ sc.names.lookup x = some .cell
  nofree : ∀ y ∈ sc.names, y.2 ≠ .free

theorem bindL_out {kindOf : Str → Option NameKind} {x : Str} : ∀ {binds : List (Str × Value)} {m : Str → Option Value}, (∀ v, (x, v) ∉ binds) → bindL kindOf binds m x = m x
  | [], _, _ => rfl
  | (n, v) :: r, m, h => by
    unfold bindL
    rw [bindL_out fun w hw => h w (List.mem_cons_of_mem _ hw)]
    split
    · have : x ≠ n := by rintro rfl; exact h v List.mem_cons_self
      simp [this]
    · rfl
theorem bindC_out {kindOf : Str → Option NameKind} {x : Str} : ∀ {binds : List (Str × Value)} {m : Str → Option Value}, (∀ v, (x, v) ∉ binds) → bindC kindOf binds m x = m x
  | [], _, _ => rfl
  | (n, v) :: r, m, h => by
    unfold bindC
    rw [bindC_out fun w hw => h w (List.mem_cons_of_mem _ hw)]
    split
    · rfl
    · have : x ≠ n := by rintro rfl; exact h v List.mem_cons_self
      simp [this]
theorem bindL_get {kindOf : Str → Option NameKind} {x : Str} {v : Value} : ∀ {P : List Str} {vs : List Value} {i : Nat} {m : Str → Option Value}, P.Nodup → P[i]? = some x → vs[i]? = some v → kindOf x = some .local →
    bindL kindOf (P.zip vs) m x = some v
  | [], _, _, _, _, h, _, _ => by simp at h
  | _ :: _, [], _, _, _, _, h, _ => by simp at h
  | p :: P, w :: vs, 0, m, nd, h1, h2, hk => by
    simp at h1 h2; subst h1; subst h2
    show bindL kindOf ((p, w) :: P.zip vs) m p = _
    unfold bindL
    rw [bindL_out fun v hv => (List.nodup_cons.mp nd).1 (List.of_mem_zip hv).1, if_pos hk]
    simp
  | p :: P, w :: vs, i + 1, m, nd, h1, h2, hk => by
    show bindL kindOf ((p, w) :: P.zip vs) m x = _
    unfold bindL
    exact bindL_get (i := i) (List.nodup_cons.mp nd).2 (by simpa using h1) (by simpa using h2) hk
theorem bindC_get {kindOf : Str → Option NameKind} {x : Str} {v : Value} : ∀ {P : List Str} {vs : List Value} {i : Nat} {m : Str → Option Value}, P.Nodup → P[i]? = some x → vs[i]? = some v → kindOf x ≠ some .local →
    bindC kindOf (P.zip vs) m x = some v
  | [], _, _, _, _, h, _, _ => by simp at h
  | _ :: _, [], _, _, _, _, h, _ => by simp at h
  | p :: P, w :: vs, 0, m, nd, h1, h2, hk => by
    simp at h1 h2; subst h1; subst h2
    show bindC kindOf ((p, w) :: P.zip vs) m p = _
    unfold bindC
    rw [bindC_out fun v hv => (List.nodup_cons.mp nd).1 (List.of_mem_zip hv).1, if_neg hk]
    simp
  | p :: P, w :: vs, i + 1, m, nd, h1, h2, hk => by
    show bindC kindOf ((p, w) :: P.zip vs) m x = _
    unfold bindC
    exact bindC_get (i := i) (List.nodup_cons.mp nd).2 (by simpa using h1) (by simpa using h2) hk

/-- the names' values at the entry -/
def start (N : List Str) (vs : List V) : St := vs.map some ++ List.replicate (N.length - vs.length) none

/-- the context of a def's body, at its entry; an exception leaves the frame, then lies as CX says -/
def cxOf (CX : CXT) (P : Program) (w : World) (K : PySem.W.Frag) (mg : Str → Option Value) (base : Heap) (N : List Str) (qual : Str) (scope : Scope) (f : Addr) (cd : Value) (A : Around) (outer : List Env) (s : Shared) (H : Hp) (E : XK) : Cx where
  prog := P
  w := w
  K := K
  mg := mg
  base := base
  A := A.deeper (envOfC qual scope s.heap.objs.size f cd)
  N := N
  s₀ := s
  H₀ := H
  env := envOfC qual scope s.heap.objs.size f cd
  outer := outer
  stack := envOfC qual scope s.heap.objs.size f cd :: outer
  ex := []
  calm := true
  fn := fun _ => true
  pn := []
  xe := fun e s' => wpAny (model P w) (A.deeper (envOfC qual scope s.heap.objs.size f cd)) (leaving (envOfC qual scope s.heap.objs.size f cd) e) (fun _ s'' => CX outer H s E e s'') (fun e' s'' => CX outer H s E e' s'') s'

theorem cell_has {sc : Scope} {n : Nat} {x : Str} (h : sc.names.lookup x = some .cell) : ∃ c, (cellsFrom n sc.names []).lookup x = some c := by
  have q := PySem.W.cellsFrom_some sc.names n [] (.inl h)
  exact Option.isSome_iff_exists.mp q

theorem inv_start {CX : CXT} {P : Program} {w : World} {K : PySem.W.Frag} {mg : Str → Option Value} {base : Heap} {N ps : List Str} {qual : Str} {scope : Scope} {f : Addr} {cd : Value} {A : Around} {outer : List Env} {s s1 : Shared} {H : Hp} {E : XK} {us : List Value} {vs : List V}
    (S : FnScope N ps scope) (hd : A.handled = none) (e0 : Env0 P w K mg base A outer s H) (hl : vs.length = ps.length) (r : Vals vs us)
    (x : InCallC s s.heap.objs.size (bindL (envOfC qual scope s.heap.objs.size f cd).kindOf (ps.zip us) fun _ => none) (cellsFrom (s.heap.objs.size + 1) scope.names []) (bindC (envOfC qual scope s.heap.objs.size f cd).kindOf (ps.zip us) fun _ => none) s1) :
    Inv (cxOf CX P w K mg base N qual scope f cd A outer s H E) [] (start N vs) H s1 := by
  have hpl : ps.length ≤ N.length := by have := congrArg List.length S.pre; rw [List.length_take] at this; omega
  obtain ⟨h1, tk, rfl, hk⟩ := x.done
  have noA : ∀ b : Addr, b ∉ (cxOf CX P w K mg base N qual scope f cd A outer s H E).ex := fun b z => absurd (show b ∈ ([] : List Addr) from z) (by simp)
  refine ⟨⟨e0.mod, S.kind, rfl, rfl, Nat.le_refl _, fun y z c h1 h2 => ?_, fun y hy => ?_, fun y c _ h => ?_, fun _ => hd, Around.frames_deeper e0.frames, .inr ⟨rfl, rfl⟩, fun b z => absurd z (noA b), e0.bs, e0.bsz, fun b _ _ => noA b, fun b z => absurd z (noA b), e0.funs, e0.frf⟩,
    rfl, e0.bare, Un.kept hk, ⟨_, x.toInCall.ns, fun i y v h1 h2 h3 => ?_⟩, fun y c h => ⟨_, x.cell y c h⟩, e0.hok.fresh (Nat.le_refl _), fun y c h => ?_, fun p hp => absurd (show p ∈ ([] : List (Addr × Obj)) from hp) (by simp), e0.hok.kept hk, ?_⟩
  · exact name_of_addr x.apart (PySem.mem_of_lookup h1) (PySem.mem_of_lookup h2)
  · have hy : scope.names.lookup y = some .cell ∨ scope.names.lookup y = some .free := hy
    rcases hy with hy | hy
    · exact cell_has hy
    · exact absurd rfl (S.nofree _ (PySem.mem_of_lookup hy))
  · exact Nat.le_of_lt (x.above y c (PySem.mem_of_lookup h))
  · have hi : i < vs.length := by
      unfold start at h2
      by_cases hi : i < vs.length
      · exact hi
      · rw [List.getElem?_append_right (by simpa using hi)] at h2
        rw [List.getElem?_replicate] at h2
        split at h2 <;> cases h2
    have ha : vs[i]? = some v := by
      unfold start at h2
      rw [List.getElem?_append_left (by simpa using hi), List.getElem?_map] at h2
      cases e : vs[i]? with
      | none => rw [e] at h2; cases h2
      | some a => rw [e] at h2; cases h2; rfl
    obtain ⟨u, hu, rv⟩ := r.get ha
    have hp : ps[i]? = some y := by
      rw [← S.pre, List.getElem?_take_of_lt (by omega)]; exact h1
    have ndP : ps.Nodup := by rw [← S.pre]; exact S.nd.sublist (List.take_sublist _ _)
    refine ⟨u, rv, ?_⟩
    rcases S.par y (List.mem_of_getElem? hp) with k | k
    · exact .inl ⟨k, bindL_get ndP hp hu k⟩
    · obtain ⟨c, e⟩ := cell_has (n := s.heap.objs.size + 1) k
      refine .inr ⟨.inl k, c, e, ?_⟩
      have q := x.cell y c e
      rw [bindC_get ndP hp hu (by show scope.names.lookup y ≠ _; rw [k]; decide)] at q
      exact q
  · exact e0.hok.fresh (Nat.le_of_lt (x.above y c (PySem.mem_of_lookup h)))
  · unfold start
    show _ = N.length
    rw [List.length_append, List.length_map, List.length_replicate]
    omega

/-- THE RULE: a def (or a method) of the text, by its body. The body's reading t is chosen for each entry; it is run at the parameters' values -/
theorem fn_of {CX : CXT} {P : Program} {w : World} {K : PySem.W.Frag} {mg : Str → Option Value} {base : Heap} {k : Nat} {f : Addr} {name qual : Str} {params : Arguments} {body : List Stmt} {scope : Scope} {dV kV doc pm cdv ct oc : Value} {an od : Option Addr}
    {osl : Array (Option Value)} {N ps : List Str} {sp : Sp} (lk : K.lookup f = some ⟨oc, od, .func (PySem.W.fnOf name qual params body scope dV kV doc pm an cdv ct), osl⟩) (hcd : PySem.W.codeIn K cdv qual = true) (S : FnScope N ps scope)
    (len : ∀ vs H Q E, sp vs H Q E → vs.length = ps.length)
    (hbody : ∀ (A : Around) (outer : List Env) (s : Shared) (H : Hp) (vs : List V) (Q : VK) (E : XK), Room k (A.deeper (envOfC qual scope s.heap.objs.size f cdv)) → sp vs H Q E →
      ∃ t, PSs (cxOf CX P w K mg base N qual scope f cdv A outer s H E) body t ∧ t { nx := fun _ H' => Q .non H', rt := Q } (start N vs) H) :
    FnOk P w K mg base CX (k + 1) f (PySem.W.fnOf name qual params body scope dV kV doc pm an cdv ct) ps sp := by
  refine ⟨len, fun A outer s H args us vs Q E hr e0 hb r hsp => ?_⟩
  have hl := len _ _ _ _ hsp
  have KX : K.In s.heap := e0.mod.kin.keeps fun b o e => (e0.bs b o e).1
  have lim : s.heap.NoLimit := e0.mod.nolimit.keeps fun b o e => (e0.bs b o e).1
  have hkind : ∀ y ∈ ps.zip us, scope.names.lookup y.1 = some .local ∨ (scope.names.lookup y.1 = some .cell ∧ ((cellsFrom (s.heap.objs.size + 1) scope.names []).lookup y.1).isSome = true) := fun ⟨n, v⟩ hy => by
    rcases S.par n (List.of_mem_zip hy).1 with q | q
    · exact .inl q
    · exact .inr ⟨q, PySem.W.cellsFrom_some _ _ _ (.inl q)⟩
  refine codeAny_call_function hr.depth (KX _ _ lk) rfl S.co S.gen rfl (PySem.W.codeRec_of KX hcd) (hb _ _ _ _ ?_)
  refine wpAny_newFunctionEnv_cells S.kind hkind fun env he s1 x => ?_
  subst he
  refine ⟨lim.keeps x.toInCall.keep, codeAny_func ?_⟩
  obtain ⟨t, ht, hq⟩ := hbody A outer s H vs Q E (hr.deeper _) hsp
  have I : Inv (cxOf CX P w K mg base N qual scope f cdv A outer s H E) [] (start N vs) H s1 := inv_start S hr.hd e0 hl r x
  refine wpAny_mono (ht [] s1 (start N vs) H _ I hq) (fun fl s' hs => ?_) fun e s' hs => hs
  have fin : ∀ {σ' : St} {H' : Hp} {v : V} {u : Value}, Inv (cxOf CX P w K mg base N qual scope f cdv A outer s H E) [] σ' H' s' → RelV v u → Q v H' → CE outer P w H s Q u s' :=
    fun {σ' H' v u} J rv q => ⟨v, H', J.os, J.bare, J.base, J.hok, rv, q⟩
  cases fl with
  | ret u =>
    obtain ⟨v, σ', H', J, rv, q⟩ := hs
    exact fin J rv q
  | next =>
    obtain ⟨σ', H', J, q⟩ := hs
    exact fin (v := V.non) (u := Value.none) J rfl q
  | brk =>
    obtain ⟨_, _, _, q⟩ := hs
    exact False.elim q
  | cont =>
    obtain ⟨_, _, _, q⟩ := hs
    exact False.elim q
end L2

namespace L2
open PySem PySem.Spec PyProof.Rows
section
variable {X : Cx} {x : Str} {p pos : Pos} {e : Expr} {es : List Expr} {t : TA} {id T : String} {r : List V → Hp → VK → Prop}

def tCB (r : List V → Hp → VK → Prop) (t : TA) : TE := fun σ H Q => t σ H fun vs H1 => r vs H1 Q
/-- f(e, ..), f a built-in function -/
theorem pe_callB (hc : CallR X (.builtin id) r) (hg : Gl X x) (hm : X.mg x = none) (hv : bootBuiltins x = some (.builtin id)) (ha : PA X (e :: es) t) (hn : x ≠ "__name__" := by decide) (hdb : (x == ("__debug__" : Str)) = false := by decide)
    (he : starEach (e :: es) X.env = (false, eval e X.env) :: starEach es X.env := by rfl) (hpl : (backTo pos (starEach es X.env)).any (·.1) = false := by rfl) : PE X (.Call (.Name x p) (e :: es) [] pos) (tCB r t) := by
  intro pins s σ H Q I h
  refine wpAny_Call_Name_kw (ld_blt I hg hm hv ?_ hn hdb)
  exact PyProof.Rows.callWith_builtin1 (thn (ha pos pins s σ H _ I h) fun us s1 ⟨vs, H1, I1, r1, q1⟩ => hc pins s1 σ H1 vs us Q I1 r1 q1) he hpl
/-- T(e, ..), T a built-in type -/
theorem pe_callTy (hc : CallR X (.type T) r) (hg : Gl X x) (hm : X.mg x = none) (hv : bootBuiltins x = some (.type T)) (ha : PA X (e :: es) t) (hn : x ≠ "__name__" := by decide) (hdb : (x == ("__debug__" : Str)) = false := by decide)
    (he : starEach (e :: es) X.env = (false, eval e X.env) :: starEach es X.env := by rfl) (hpl : (backTo pos (starEach es X.env)).any (·.1) = false := by rfl) : PE X (.Call (.Name x p) (e :: es) [] pos) (tCB r t) := by
  intro pins s σ H Q I h
  refine wpAny_Call_Name_kw (ld_blt I hg hm hv ?_ hn hdb)
  exact PyProof.Rows.callWith_type1 (thn (ha pos pins s σ H _ I h) fun us s1 ⟨vs, H1, I1, r1, q1⟩ => hc pins s1 σ H1 vs us Q I1 r1 q1) he hpl
end
end L2

namespace HT
open PySem PyProof.Rows

/-- t < u of tuples of ints -/
def lexLt : List Int → List Int → Bool
  | [], [] => false
  | [], _ :: _ => true
  | _ :: _, [] => false
  | x :: xs, y :: ys => if x = y then lexLt xs ys else decide (x < y)
theorem lexLt_cons (x y : Int) (xs ys : List Int) : lexLt (x :: xs) (y :: ys) = if x = y then lexLt xs ys else decide (x < y) := rfl
section
open PySem.SeqAt
open PySem.AutoSeq1 (wpAny_loadPart')
open PySem.MeetsSeq PySem.MeetsSeq2 PySem.MeetsSeq3

end

section
variable {prog : Program} {w : World} {A : Around} {E : Value → Shared → Prop} {s : Shared}

/-- t + u, t not empty -/
theorem cat_tup {t b : Addr} {vs ws : List Value} {Q : Value → Shared → Prop} (ht : IsTup s.heap t vs.toArray) (hb : IsTup s.heap b ws.toArray) (hv : vs ≠ [])
    (h1 : ws = [] → Q (.ref t) s) (h2 : ws ≠ [] → Q (.ref s.heap.objs.size) { s with heap := s.heap.push { cls := .type "tuple", data := .seq (vs ++ ws).toArray } })
    (hsz : vs.length + ws.length ≤ sizeLine) : wpAny (model prog w) A (binaryOp .Add (.ref t) (.ref b)) Q E s := by
  obtain ⟨⟨cls, dd, data, sl⟩, ho, hc, n, hd⟩ := id ht
  obtain ⟨⟨cls2, dd2, data2, sl2⟩, ho2, hc2, n2, hd2⟩ := id hb
  simp only at hc hd hc2 hd2
  subst hc hd hc2 hd2
  have e : vs.toArray ++ ws.toArray = (vs ++ ws).toArray := by simp
  by_cases hw : ws = []
  · exact concat_meets ⟨_, ho, rfl⟩ ⟨_, ho2, rfl⟩ noFill_tuple_add seq_tuple_add PySem.F.slot_tuple_add PySem.F.entry_tuple_add (PySem.F.args_tuple_add_2 _ _)
      (tuple_addW1 t b vs.toArray ws.toArray n n2 dd dd2 sl sl2 (by simpa using hv) (by simp [hw])) ⟨ho, ho2, h1 hw⟩
  · refine concat_meets ⟨_, ho, rfl⟩ ⟨_, ho2, rfl⟩ noFill_tuple_add seq_tuple_add PySem.F.slot_tuple_add PySem.F.entry_tuple_add (PySem.F.args_tuple_add_2 _ _)
      (tuple_addW2 t b vs.toArray ws.toArray n n2 dd dd2 sl sl2 (by simpa using hv) (by simpa using hw) (by rw [List.size_toArray, List.size_toArray]; exact hsz)) ⟨ho, ho2, ?_⟩
    rw [e]
    exact h2 hw

/-! ### t[a:b], not the whole -/
end
end HT

namespace L2
open PySem PySem.Spec PyProof.Rows

/-! ### the parts of a slice -/
abbrev TO := St → Hp → (Option Int → Hp → Prop) → Prop
theorem intsAre_of {ns : List Int} : ∀ {us : List Value}, Vals (ns.map V.int) us → IntsAre us ns := by
  induction ns with
  | nil => intro us r; rw [List.map_nil] at r; cases r; exact .nil
  | cons n ns ih =>
    intro us r
    rw [List.map_cons] at r
    cases r with
    | cons r1 r2 =>
      obtain ⟨t, e⟩ := r1
      subst e
      exact .cons n t (ih r2)

section
variable {X : Cx} {e : Expr} {te : TE} {lo hi : Option Expr} {tl th : TO} {pos p2 : Pos}

/-! ### t < u, t + u -/
end
end L2

namespace L2
open PySem PySem.Spec PyProof.Rows

/-! ### places -/
/-- the place that an index of any sign means -/
def ixN (n : Nat) (i : Int) : Option Nat := if 0 ≤ i then (if i < n then some i.toNat else none) else if -(n : Int) ≤ i then some (i + n).toNat else none
def atI {α : Type} (xs : List α) (i : Int) : Option α := (ixN xs.length i).bind fun j => xs[j]?
theorem ixN_seq {n : Nat} {i : Int} {j : Nat} (h : ixN n i = some j) : seqIndex? i n = some j ∧ j < n ∧ -(n : Int) ≤ i ∧ i < n := by
  unfold ixN at h
  by_cases h0 : 0 ≤ i
  · rw [if_pos h0] at h
    by_cases h1 : i < n
    · rw [if_pos h1] at h
      have e : i.toNat = j := Option.some.inj h
      exact ⟨by rw [seqIndex_of h0 h1, e], by omega, by omega, h1⟩
    · rw [if_neg h1] at h; cases h
  · rw [if_neg h0] at h
    by_cases h1 : -(n : Int) ≤ i
    · rw [if_pos h1] at h
      have e : (i + n).toNat = j := Option.some.inj h
      exact ⟨by rw [seqIndex_neg (by omega) h1, e], by omega, h1, by omega⟩
    · rw [if_neg h1] at h; cases h
theorem atI_get {α : Type} {xs : List α} {i : Int} {v : α} (h : atI xs i = some v) : ∃ j, seqIndex? i xs.length = some j ∧ xs[j]? = some v ∧ j < xs.length ∧ -(xs.length : Int) ≤ i ∧ i < xs.length := by
  unfold atI at h
  cases e : ixN xs.length i with
  | none => rw [e] at h; cases h
  | some j =>
    rw [e] at h
    obtain ⟨h1, h2, h3, h4⟩ := ixN_seq e
    exact ⟨j, h1, h, h2, h3, h4⟩
theorem atI_nat {α : Type} {xs : List α} {j : Nat} {v : α} (h : xs[j]? = some v) : atI xs (j : Int) = some v := by
  have hj : j < xs.length := (List.getElem?_eq_some_iff.mp h).1
  have e : ixN xs.length (j : Int) = some j := by
    unfold ixN
    rw [if_pos (by omega), if_pos (by omega)]; simp
  unfold atI; rw [e]; exact h
/-! ### what may be subscripted -/
/-- what stands as an index of a plain subscript -/
def PlainIx (b : Expr) : Prop := ∀ o i, subscripted b false o i = operate [o, i] (getItem o i)
/-- a subscript by values -/
def IxR (X : Cx) (r : R2) : Prop :=
  ∀ (value slice : Expr) (pins : List (Addr × Obj)) (s : Shared) (σ : St) (H : Hp) (x y : V) (v u : Value) (Q : VK), Inv X pins σ H s → RelV x v → RelV y u → r x y H Q →
    subscripted slice false v u = operate [v, u] (getItem v u) → wpAny (model X.prog X.w) X.A (subscriptTail value slice v u) (EP X pins σ Q) X.xe s
/-- a call of a builtin's method by values: the receiver, the arguments -/
def MtR (X : Cx) (id : String) (r : V → List V → Hp → VK → Prop) : Prop :=
  ∀ (pins : List (Addr × Obj)) (s : Shared) (σ : St) (H : Hp) (x : V) (xs : List V) (v : Value) (us : List Value) (Q : VK), Inv X pins σ H s → RelV x v → Vals xs us → r x xs H Q →
    wpAny (model X.prog X.w) X.A (call (.builtin id) (v :: us)) (EP X pins σ Q) X.xe s
section
variable {X : Cx} {a b : Expr} {ta tb : TE} {pos : Pos}
/-- a[b] -/
theorem pe_ix {r : R2} (hr : IxR X r) (ha : PE X a ta) (hb : PE X b tb) (hs : PlainIx b) : PE X (.Subscript a b pos) (tOp r ta tb) := by
  intro pins s σ H Q I h
  exact Subscript_ (binT ha hb I h fun v u s2 x y H2 I2 rx ry q => hr a b pins s2 σ H2 x y v u Q I2 rx ry q (hs _ _))

def rIxL (K : PySem.W.Frag) : R2 := fun x y H Q => ∃ p xs i v, x = .ref p ∧ y = .int i ∧ SqL K H p xs ∧ atI xs i = some v ∧ Q v H
def rIxT (K : PySem.W.Frag) : R2 := fun x y H Q => ∃ p xs i v, x = .ref p ∧ y = .int i ∧ SqT K H p xs ∧ atI xs i = some v ∧ Q v H
theorem ix_list : IxR X (rIxL X.K) := by
  intro value slice pins s σ H x y v u Q I rx ry h hs
  obtain ⟨p, xs, i, z, rfl, rfl, hq, he, q⟩ := h
  cases rx
  obtain ⟨t, rfl⟩ := ry
  obtain ⟨its, r, pl, hz⟩ := I.list hq
  obtain ⟨j, h1, h2, h3, h4, h5⟩ := atI_get he
  obtain ⟨w, ew, rw'⟩ := r.get h2
  have hl := r.length
  have hn := line63
  have fin : EP X pins σ Q w s := ⟨z, H, I, rw', q⟩
  by_cases h0 : 0 ≤ i
  · have hj : i.toNat = j := by
      rw [seqIndex_of h0 h5] at h1
      exact Option.some.inj h1
    exact item_listR pl.isList h0 (by omega) (by rw [hj]; simpa using ew) fin hs
  · have hj : (i + (its.toArray.size : Int)).toNat = j := by
      rw [seqIndex_neg (by omega) h4] at h1
      rw [List.size_toArray, ← hl]
      exact Option.some.inj h1
    exact subscriptTail_builtinR (x := w) pl.isList.typeIs slot_list_getitem.lookup
      (wpAny_getItem_list_neg (Q := fun r s' => r = w ∧ EP X pins σ Q r s') pl.isList (by omega) (by rw [List.size_toArray] <;> omega) (by omega) (by rw [hj]; simpa using ew) ⟨rfl, fin⟩) hs
theorem ix_tup : IxR X (rIxT X.K) := by
  intro value slice pins s σ H x y v u Q I rx ry h hs
  obtain ⟨p, xs, i, z, rfl, rfl, hq, he, q⟩ := h
  cases rx
  obtain ⟨t, rfl⟩ := ry
  obtain ⟨its, r, pl, hz⟩ := I.tuple hq
  obtain ⟨j, h1, h2, h3, h4, h5⟩ := atI_get he
  obtain ⟨w, ew, rw'⟩ := r.get h2
  have hl := r.length
  have hn := line63
  have fin : EP X pins σ Q w s := ⟨z, H, I, rw', q⟩
  exact subscriptTail_builtinR (x := w) pl.typeIs slot_tuple_getitem.lookup
    (getItem_tuple (j := j) (Q := fun r s' => r = w ∧ EP X pins σ Q r s') pl (by omega) (by omega) (by rw [List.size_toArray, ← hl]; exact h1) (by simpa using ew) ⟨rfl, fin⟩) hs
/-! ### xs[i] = v, any sign -/
/-- the list's object behind a store -/
theorem mapSeq_set (its : List Value) (n j : Nat) (u : Value) : Obj.mapSeq (·.setIfInBounds j u) { cls := .type "list", data := .seq its.toArray n } = { cls := .type "list", data := .seq (its.set j u).toArray n } := by
  simp [Obj.mapSeq]
theorem Inv.lst {pins : List (Addr × Obj)} {σ : St} {H : Hp} {s : Shared} {p : Addr} {xs : List V} (I : Inv X pins σ H s) (h : H p = some (.lst xs)) :
    ∃ (its : List Value) (n : Nat), Vals xs its ∧ s.heap.get? p = some { cls := .type "list", data := .seq its.toArray n } ∧ xs.length ≤ sizeLine := by
  obtain ⟨z, its, n, r, e⟩ := I.hok p _ h
  exact ⟨its, n, r, e, z⟩
/-- the list at p is written by an update of its object -/
theorem Inv.lstUpd {pins : List (Addr × Obj)} {σ : St} {H : Hp} {s : Shared} {p : Addr} {xs ys : List V} {its its' : List Value} {n n' : Nat} {f : Obj → Obj} (I : Inv X pins σ H s) (h : H p = some (.lst xs))
    (ho : s.heap.get? p = some { cls := .type "list", data := .seq its.toArray n }) (hf : f { cls := .type "list", data := .seq its.toArray n } = { cls := .type "list", data := .seq its'.toArray n' }) (r : Vals ys its') (hz : ys.length ≤ sizeLine) (t : Nat) :
    Inv X pins σ (upd H p (.lst ys)) { s with heap := s.heap.update p f, toks := t } := by
  have e : (s.heap.update p f).get? p = some { cls := .type "list", data := .seq its'.toArray n' } := by
    rw [Heap.get?_update_self f ho (by rw [hf] <;> rfl), hf]
  refine I.write (x := p) (e := p) (by rw [h]; trivial) (.inl rfl) (fun b u hb q => (Heap.get?_update_other _ _ (Ne.symm hb)).trans q) ⟨_, e⟩ ?_
  exact ⟨hz, its', n', r, e⟩
def rSetL : V → V → V → Hp → (Hp → Prop) → Prop := fun o i v H Q => ∃ p xs k j, o = .ref p ∧ i = .int k ∧ H p = some (.lst xs) ∧ ixN xs.length k = some j ∧ Q (upd H p (.lst (xs.set j v)))
theorem set_list : PSet X rSetL := by
  intro pins s σ H o i v ov iv u Q I ro ri rv h
  obtain ⟨p, xs, k, j, rfl, rfl, hp, hj, q⟩ := h
  cases ro
  obtain ⟨t, rfl⟩ := ri
  obtain ⟨its, n, r, ho, hz⟩ := I.lst hp
  obtain ⟨h1, h2, h3, h4⟩ := ixN_seq hj
  have hl := r.length
  have hn := line63
  have I' : Inv X pins σ (upd H p (.lst (xs.set j v))) { s with heap := s.heap.update p (Obj.mapSeq (·.setIfInBounds j u)) } :=
    I.lstUpd hp ho (mapSeq_set its n j u) (r.set rv j) (by rw [List.length_set]; exact hz) s.toks
  by_cases h0 : 0 ≤ k
  · have hk : k.toNat = j := by
      rw [seqIndex_of h0 h4] at h1
      exact Option.some.inj h1
    exact PySem.W.ki_setAt ho h0 (by omega) (by rw [List.size_toArray, ← hl]; exact h4) (by rw [hk]; exact ⟨_, I', q⟩)
  · have hk : (k + (its.toArray.size : Int)).toNat = j := by
      rw [seqIndex_neg (by omega) h3] at h1
      rw [List.size_toArray, ← hl]
      exact Option.some.inj h1
    exact PySem.W.ki_setBack ho (by omega) (by rw [List.size_toArray, ← hl]; exact h3) (by omega) (by rw [hk]; exact ⟨_, I', q⟩)

/-! ### slices -/
/-! ### in, not in: flat items -/
def flatV : V → Bool
  | .non => true
  | .bl _ => true
  | .int _ => true
  | .str _ => true
  | _ => false
/-- == of flat values -/
def eqV : V → V → Bool
  | .non, .non => true
  | .bl a, .bl b => a == b
  | .bl a, .int b => (if a then 1 else 0) == b
  | .int a, .bl b => a == (if b then 1 else 0)
  | .int a, .int b => a == b
  | .str a, .str b => a == b
  | _, _ => false
theorem eqAt_V {A : Around} {s : Shared} {y x : V} {u v : Value} (ry : RelV y u) (rx : RelV x v) (fy : flatV y = true) (fx : flatV x = true) : SeqAt.EqAt A s u v (eqV y x) := by
  cases y with
  | non =>
    cases ry
    cases x with
    | non => cases rx; exact SeqAt.EqAt.same _
    | bl b => cases rx; exact SeqAt.EqAt.none_bool b
    | int b => obtain ⟨t, rfl⟩ := rx; exact SeqAt.EqAt.none_int b t
    | str b => obtain ⟨t, rfl⟩ := rx; exact SeqAt.EqAt.none_str b t
    | _ => exact absurd (show false = true from fx) Bool.false_ne_true
  | bl a =>
    cases ry
    cases x with
    | non => cases rx; exact SeqAt.EqAt.bool_none a
    | bl b => cases rx; exact SeqAt.EqAt.bool_bool a b
    | int b => obtain ⟨t, rfl⟩ := rx; exact SeqAt.EqAt.bool_int a b t
    | str b => obtain ⟨t, rfl⟩ := rx; exact SeqAt.EqAt.bool_str a b t
    | _ => exact absurd (show false = true from fx) Bool.false_ne_true
  | int a =>
    obtain ⟨t', rfl⟩ := ry
    cases x with
    | non => cases rx; exact SeqAt.EqAt.int_none a t'
    | bl b => cases rx; exact SeqAt.EqAt.int_bool a t' b
    | int b => obtain ⟨t, rfl⟩ := rx; exact SeqAt.EqAt.int_int a t' b t
    | str b => obtain ⟨t, rfl⟩ := rx; exact SeqAt.EqAt.int_str a t' b t
    | _ => exact absurd (show false = true from fx) Bool.false_ne_true
  | str a =>
    obtain ⟨t', rfl⟩ := ry
    cases x with
    | non => cases rx; exact SeqAt.EqAt.str_none a t'
    | bl b => cases rx; exact SeqAt.EqAt.str_bool a t' b
    | int b => obtain ⟨t, rfl⟩ := rx; exact SeqAt.EqAt.str_int a t' b t
    | str b => obtain ⟨t, rfl⟩ := rx; exact SeqAt.EqAt.str_str a t' b t
    | _ => exact absurd (show false = true from fx) Bool.false_ne_true
  | _ => exact absurd (show false = true from fy) Bool.false_ne_true
/-- the items' answers, read off the values (a value's own answer does not lean on its token) -/
def eqU (x : V) (u : Value) : Bool := match u with
  | .none => eqV .non x
  | .bool b => eqV (.bl b) x
  | .int i _ => eqV (.int i) x
  | .str z _ => eqV (.str z) x
  | _ => false
theorem eqU_of {x y : V} {u : Value} (r : RelV y u) (f : flatV y = true) : eqU x u = eqV y x := by
  cases y with
  | non => cases r; rfl
  | bl b => cases r; rfl
  | int i => obtain ⟨t, rfl⟩ := r; rfl
  | str z => obtain ⟨t, rfl⟩ := r; rfl
  | _ => exact absurd (show false = true from f) Bool.false_ne_true
theorem any_eqU {x : V} : ∀ {xs : List V} {us : List Value}, Vals xs us → xs.all flatV = true → us.any (eqU x) = xs.any fun y => eqV y x
  | _, _, .nil, _ => rfl
  | y :: xs, u :: us, .cons r t, f => by
    rw [List.all_cons, Bool.and_eq_true] at f
    rw [List.any_cons, List.any_cons, eqU_of r f.1, any_eqU t f.2]
theorem mem_eqAt {A : Around} {s : Shared} {x : V} {v : Value} (rx : RelV x v) (fx : flatV x = true) : ∀ {xs : List V} {us : List Value}, Vals xs us → xs.all flatV = true → ∀ u ∈ us, SeqAt.EqAt A s u v (eqU x u)
  | _, _, .nil, _ => fun u hu => by cases hu
  | y :: xs, u :: us, .cons r t, f => fun u' hu => by
    rw [List.all_cons, Bool.and_eq_true] at f
    rcases List.mem_cons.mp hu with rfl | hu
    · rw [eqU_of r f.1]; exact eqAt_V r rx f.1 fx
    · exact mem_eqAt rx fx t f.2 u' hu
def inV (x : V) (xs : List V) : Bool := xs.any fun y => eqV y x
/-- x in a list or tuple of flat items -/
def rIn (K : PySem.W.Frag) (neg : Bool) : R2 := fun x y H Q => ∃ p xs, y = .ref p ∧ (SqL K H p xs ∨ SqT K H p xs) ∧ flatV x = true ∧ xs.all flatV = true ∧ Q (.bl (if neg then !inV x xs else inV x xs)) H
theorem op_in_seq : OpR X (compareOp .In) (rIn X.K false) := by
  intro pins s σ H x y v u Q I rx ry h
  obtain ⟨p, xs, rfl, hq, fx, fs, q⟩ := h
  cases ry
  rcases hq with hq | hq
  · obtain ⟨its, r, pl, hz⟩ := I.list hq
    refine SeqAt.in_listAt (eqU x) pl.isList (fun w hw => mem_eqAt rx fx r fs w (by simpa using hw)) ⟨.bl _, H, I, rfl, ?_⟩
    rw [show its.toArray.any (eqU x) = its.any (eqU x) by simp, any_eqU r fs]
    exact q
  · obtain ⟨its, r, pl, hz⟩ := I.tuple hq
    refine SeqAt.in_tupleAt (eqU x) pl (fun w hw => mem_eqAt rx fx r fs w (by simpa using hw)) ⟨.bl _, H, I, rfl, ?_⟩
    rw [show its.toArray.any (eqU x) = its.any (eqU x) by simp, any_eqU r fs]
    exact q
/-! ### len, list(x), tuple(x) of any list or tuple that is read -/
theorem call_len_seq : CallR X (.builtin "len") (fun xs H Q => ∃ p ys, xs = [.ref p] ∧ (SqL X.K H p ys ∨ SqT X.K H p ys) ∧ Q (.int ys.length) H) := by
  intro pins s σ H xs us Q I r h
  obtain ⟨p, ys, rfl, hq, q⟩ := h
  obtain ⟨u, rfl, rx⟩ := vals1 r
  cases rx
  have hn := line63
  rcases hq with hq | hq
  · obtain ⟨its, r', pl, hz⟩ := I.list hq
    have hlen := r'.length
    exact Calls.call_len_list pl.isList (by simp only [List.size_toArray] <;> omega) ⟨.int ys.length, H, I.tok _, ⟨s.toks + 1, by rw [List.size_toArray, hlen]⟩, q⟩
  · obtain ⟨its, r', pl, hz⟩ := I.tuple hq
    have hlen := r'.length
    exact len_tuple pl (by simp only [List.size_toArray] <;> omega) ⟨.int ys.length, H, I.tok _, ⟨s.toks + 1, by rw [List.size_toArray, hlen]⟩, q⟩
theorem call_tuple_of : CallR X (.type "tuple") (fun xs H Q => ∃ p ys, xs = [.ref p] ∧ ((SqL X.K H p ys ∧ ∀ l, H l = none → Q (.ref l) (upd H l (.tup ys))) ∨ (SqT X.K H p ys ∧ Q (.ref p) H))) := by
  intro pins s σ H xs us Q I r h
  obtain ⟨p, ys, rfl, h⟩ := h
  obtain ⟨u, rfl, rx⟩ := vals1 r
  cases rx
  rcases h with ⟨hq, q⟩ | ⟨hq, q⟩
  · obtain ⟨its, r', pl, hz⟩ := I.list hq
    have hlen := r'.length
    refine call_tuple_list pl.isList (fun h' kp => ?_) (by simp only [List.size_toArray] <;> omega)
    have I1 : Inv X pins σ H { s with heap := h' } := I.kept (t' := s.toks) kp
    have I2 : Inv X pins σ (upd H h'.objs.size (.tup ys)) { s with heap := h'.push { cls := .type "tuple", data := .seq its.toArray } } :=
      I1.laid (t' := s.toks) (fun b o e => Heap.get?_push_of_some _ e) (Nat.le_refl _) (show ObjOk X.prog X.w _ _ _ (.tup ys) from ⟨hz, its, r', IsTup.new _ _⟩)
    exact ⟨.ref h'.objs.size, _, I2, rfl, q _ (I1.hok.fresh (Nat.le_refl _))⟩
  · obtain ⟨its, r', pl, hz⟩ := I.tuple hq
    exact call_tuple_same pl ⟨.ref p, H, I, rfl, q⟩

/-! ### the call of a builtin's method: o.m(..) -/
/-- the value is of that builtin type -/
def tyV (K : PySem.W.Frag) (T : String) (x : V) (H : Hp) : Prop := match x with
  | .str _ => T = "str"
  | .int _ => T = "int"
  | .ref p => (T = "list" ∧ ∃ xs, SqL K H p xs) ∨ (T = "tuple" ∧ ∃ o, K.lookup p = some o ∧ o.cls = .type "tuple" ∧ o.dict = none) ∨
      (T = "dict" ∧ ((∃ kvs, H p = some (.dK kvs)) ∨ ∃ kvs, H p = some (.dT kvs))) ∨ (T = "set" ∧ ∃ S n, H p = some (.set S n))
  | _ => False
theorem tyV_is {pins : List (Addr × Obj)} {σ : St} {H : Hp} {s : Shared} {T : String} {x : V} {v : Value} (I : Inv X pins σ H s) (r : RelV x v) (ty : tyV X.K T x H) :
    s.TypeIs v T ∧ ∀ a, v = .ref a → ∃ ob, s.heap.get? a = some ob ∧ ob.dict = none := by
  cases x with
  | str z =>
    obtain ⟨t, rfl⟩ := r
    cases (show T = "str" from ty)
    exact ⟨typeIs_str s z t, fun _ e => nomatch e⟩
  | int i =>
    obtain ⟨t, rfl⟩ := r
    cases (show T = "int" from ty)
    exact ⟨typeIs_int s i t, fun _ e => nomatch e⟩
  | ref p =>
    cases r
    rcases ty with ⟨rfl, xs, hq⟩ | ⟨rfl, o, hk, hc, hd⟩ | ⟨rfl, hk⟩ | ⟨rfl, S, n, hk⟩
    · obtain ⟨its, _, pl, _⟩ := I.list hq
      refine ⟨pl.isList.typeIs, fun a e => ?_⟩
      cases e
      obtain ⟨o, n, e, c, hd, _⟩ := pl
      exact ⟨o, e, hd⟩
    · refine ⟨⟨o, I.kIn p o hk, hc⟩, fun a e => ?_⟩
      cases e
      exact ⟨o, I.kIn _ o hk, hd⟩
    · have z : ∃ o, s.heap.get? p = some o ∧ o.ExactDict := by
        rcases hk with ⟨kvs, hk⟩ | ⟨kvs, hk⟩
        · obtain ⟨_, _, _, _, o, _, _, e, ex, _⟩ := I.hok p _ hk
          exact ⟨o, e, ex⟩
        · obtain ⟨_, _, _, _, o, _, _, e, ex, _⟩ := I.hok p _ hk
          exact ⟨o, e, ex⟩
      obtain ⟨o, e, ex⟩ := z
      refine ⟨⟨o, e, ex.1⟩, fun a e2 => ?_⟩
      cases e2
      exact ⟨o, e, ex.2.1⟩
    · obtain ⟨o, _, _, _, e, ex, _⟩ := I.hok p _ hk
      refine ⟨⟨o, e, ex.1⟩, fun a e2 => ?_⟩
      cases e2
      exact ⟨o, e, ex.2.1⟩
  | _ => exact False.elim ty
def tBM (K : PySem.W.Frag) (T : String) (r : V → List V → Hp → VK → Prop) (to : TE) (t : TA) : TE := fun σ H Q => to σ H fun x H1 => tyV K T x H1 ∧ t σ H1 fun xs H2 => r x xs H2 Q
variable {o e : Expr} {es : List Expr} {to : TE} {t : TA} {name : Str} {apos cpos : Pos} {T id : String} {r : V → List V → Hp → VK → Prop}
theorem pe_bm (pa : PlainAttrs T) (slot : Slot T name id) (hty : typeOf (.builtin id) = pure (.type "method_descriptor")) (hm : MtR X id r) (ho : PE X o to) (ha : PA X (e :: es) t)
    (hbase : attributeBase o name X.env (eval o X.env) = eval o X.env := by rfl)
    (hfew : ((backTo cpos (starEach (e :: es) X.env)).all (fun x => !x.1) && (backToKw cpos (keywordEach [] X.env)).all (fun x => x.1.isSome)
      && decide ((e :: es).length + ([] : List Keyword).length + (if ([] : List Keyword).isEmpty then 0 else 1) < 30)) = true := by rfl)
    (hline : (apos.endLine == cpos.line) = true := by rfl) (hs : starEach (e :: es) X.env = (false, eval e X.env) :: starEach es X.env := by rfl) (hplain : (backTo cpos (starEach es X.env)).any (·.1) = false := by rfl) :
    PE X (.Call (.Attribute o name apos) (e :: es) [] cpos) (tBM X.K T r to t) := by
  intro pins s σ H Q I h
  refine wpAny_Call_method_late hbase hfew hline rfl (thn (ho pins s σ H _ I h) fun v s1 ⟨x, H1, I1, r1, ty, q1⟩ => ?_)
  obtain ⟨h1, h2⟩ := tyV_is I1 r1 ty
  refine ⟨T, id, pa, slot, hty, h1, h2, ?_⟩
  have hA := ha cpos pins s1 σ H1 _ I1 q1
  rw [hs] at hA ⊢
  refine Calls.callWith_builtin (by show (false || (backTo cpos (starEach es X.env)).any (·.1)) = false; rw [hplain] <;> rfl) (Calls.evalArgs_plain ?_)
  exact thn hA fun us s2 ⟨vs, H2, I2, r2, q2⟩ => hm pins s2 σ H2 x vs v us Q I2 r1 r2 q2
/- xs.append(e), list.index on a module's tuple .. are MtR facts of 06m -/
end
end L2

namespace L2
open PySem PySem.Spec PyProof.Rows

def MtM (X : Cx) (id : String) (r : V → List V → Hp → VK → Prop) : Prop :=
  ∀ (pins : List (Addr × Obj)) (s : Shared) (σ : St) (H : Hp) (x : V) (xs : List V) (v : Value) (us : List Value) (Q : VK), Inv X pins σ H s → RelV x v → Vals xs us → r x xs H Q →
    wpAny (model X.prog X.w) X.A (call (.builtin id) (v :: us)) (EP X pins σ Q) X.xe s

/-! ### lists of values -/
theorem Vals.one : ∀ {x : V} {us : List Value}, Vals [x] us → ∃ u, us = [u] ∧ RelV x u
  | _, _, .cons r .nil => ⟨_, rfl, r⟩
theorem Vals.two : ∀ {x y : V} {us : List Value}, Vals [x, y] us → ∃ u v, us = [u, v] ∧ RelV x u ∧ RelV y v
  | _, _, _, .cons r (.cons q .nil) => ⟨_, _, rfl, r, q⟩
theorem Vals.zero : ∀ {us : List Value}, Vals [] us → us = []
  | _, .nil => rfl
theorem Vals.dropLast {xs : List V} {us : List Value} (h : Vals xs us) : Vals xs.dropLast us.dropLast := by
  induction h with
  | nil => exact .nil
  | cons r t ih =>
    cases t with
    | nil => exact .nil
    | cons q t' => exact .cons r ih
theorem Vals.eraseIdx : ∀ {xs : List V} {us : List Value} (i : Nat), Vals xs us → Vals (xs.eraseIdx i) (us.eraseIdx i)
  | _, _, _, .nil => .nil
  | _, _, 0, .cons _ t => t
  | _, _, i + 1, .cons r t => .cons r (Vals.eraseIdx i t)
theorem Vals.reverse {xs : List V} {us : List Value} (h : Vals xs us) : Vals xs.reverse us.reverse := by
  induction h with
  | nil => exact .nil
  | cons r t ih => rw [List.reverse_cons, List.reverse_cons]; exact Vals.append ih (.cons r .nil)
section
variable {X : Cx} {pins : List (Addr × Obj)} {σ : St} {H : Hp} {s : Shared} {l b : Addr} {xs ys zs : List V}

/-! ### the two steps: a tracked list is rewritten, a new list is laid -/
theorem Inv.lset {its its' : List Value} {n : Nat} {f : Array Value → Array Value} {t' : Nat} (I : Inv X pins σ H s) (hH : H l = some (.lst xs))
    (e : s.heap.get? l = some { cls := .type "list", data := .seq its.toArray n }) (hf : f its.toArray = its'.toArray) (hv : Vals ys its') (hz : ys.length ≤ sizeLine) :
    Inv X pins σ (upd H l (.lst ys)) { s with heap := s.heap.update l (Obj.mapSeq f), toks := t' } := by
  have q := PySem.IsL.update e f
  rw [hf] at q
  refine I.write (x := l) (e := l) (by rw [hH]; exact trivial) (.inl rfl) (fun b' u hb hu => (Heap.get?_update_other s.heap (Obj.mapSeq f) (Ne.symm hb)).trans hu) ⟨_, q⟩ ?_
  exact ⟨hz, its', _, hv, q⟩
theorem Inv.lnew {its : List Value} {t' : Nat} (I : Inv X pins σ H s) (hv : Vals ys its) (hz : ys.length ≤ sizeLine) :
    Inv X pins σ (upd H s.heap.objs.size (.lst ys)) { s with heap := s.heap.push { cls := .type "list", data := .seq its.toArray }, toks := t' } :=
  I.laid (fun _ _ q => Heap.get?_push_of_some _ q) (Nat.le_refl _) ⟨hz, its, 0, hv, Heap.get?_push_size _ rfl⟩
theorem Inv.fresh (I : Inv X pins σ H s) : H s.heap.objs.size = none := I.hok.fresh (Nat.le_refl _)
theorem Inv.lstM (I : Inv X pins σ H s) (hH : H l = some (.lst xs)) : xs.length ≤ sizeLine ∧ ∃ (its : List Value) (n : Nat), Vals xs its ∧ xs.length = its.length ∧ s.heap.get? l = some { cls := .type "list", data := .seq its.toArray n } := by
  obtain ⟨z, its, n, r, e⟩ := I.hok l _ hH
  exact ⟨z, its, n, r, r.length, e⟩

theorem notLongL {n : Nat} (h : n ≤ sizeLine) : Builtin.List.listTooLong n = false := by
  unfold Builtin.List.listTooLong
  exact decide_eq_false (by omega)
end

section
variable {X : Cx}

/-! ### methods -/
def rAppend : V → List V → Hp → VK → Prop := fun x vs H Q => ∃ l xs y, x = .ref l ∧ vs = [y] ∧ H l = some (.lst xs) ∧ xs.length < sizeLine ∧ Q .non (upd H l (.lst (xs ++ [y])))
theorem mt_append : MtM X "list.append" rAppend := by
  intro pins s σ H x vs v us Q I rx rv h
  obtain ⟨l, xs, y, rfl, rfl, hH, hz, q⟩ := h
  cases rx
  obtain ⟨u, rfl, ru⟩ := rv.one
  obtain ⟨z, its, n, r, hl, e⟩ := I.lstM hH
  refine call_meets F.slot_list_append ⟨_, e, rfl⟩ F.entry_list_append (F.args_list_append_2 _ _) (PySem.list_append l its.toArray n u (by rw [List.size_toArray]; omega)) ⟨e, ?_⟩
  refine ⟨.non, _, I.lset (its' := its ++ [u]) hH e (by simp) (r.append (.cons ru .nil)) ?_, rfl, q⟩
  rw [List.length_append, List.length_singleton]
  omega

def rExtend : V → List V → Hp → VK → Prop := fun x vs H Q => ∃ l b xs zs, x = .ref l ∧ vs = [.ref b] ∧ H l = some (.lst xs) ∧ H b = some (.lst zs) ∧ xs.length + zs.length ≤ sizeLine ∧ Q .non (upd H l (.lst (xs ++ zs)))
theorem mt_extend : MtM X "list.extend" rExtend := by
  intro pins s σ H x vs v us Q I rx rv h
  obtain ⟨l, b, xs, zs, rfl, rfl, hH, hB, hz, q⟩ := h
  cases rx
  obtain ⟨u, rfl, ru⟩ := rv.one
  cases ru
  obtain ⟨z, its, n, r, hl, e⟩ := I.lstM hH
  obtain ⟨z2, its2, n2, r2, hl2, e2⟩ := I.lstM hB
  have hsz : its.toArray.size + its2.toArray.size ≤ sizeLine := by rw [List.size_toArray, List.size_toArray]; omega
  have hlong : ¬ (!its.toArray.isEmpty && Builtin.List.listTooLong (its.toArray.size + its2.toArray.size)) = true := by
    rw [notLongL hsz, Bool.and_false]
    exact Bool.false_ne_true
  refine call_meets F.slot_list_extend ⟨_, e, rfl⟩ F.entry_list_extend (F.args_list_extend_2 _ _)
    (AutoSeq1.list_extend_list_list_0 l its.toArray n b its2.toArray n2 hlong (by rw [List.size_toArray]; omega) (by omega)) ⟨e, e2, ?_⟩
  refine ⟨.non, _, I.lset (its' := its ++ its2) hH e (by simp) (r.append r2) ?_, rfl, q⟩
  rw [List.length_append]
  omega

/-! ### list + list, list += list, list * int -/
def rCat : R2 := fun x y H Q => ∃ l b xs zs, x = .ref l ∧ y = .ref b ∧ H l = some (.lst xs) ∧ H b = some (.lst zs) ∧ xs.length + zs.length ≤ sizeLine ∧ ∀ p, H p = none → Q (.ref p) (upd H p (.lst (xs ++ zs)))
theorem op_cat : OpR X (binaryOp .Add) rCat := by
  intro pins s σ H x y v u Q I rx ry h
  obtain ⟨l, b, xs, zs, rfl, rfl, hH, hB, hz, q⟩ := h
  cases rx
  cases ry
  obtain ⟨z, its, n, r, hl, e⟩ := I.lstM hH
  obtain ⟨z2, its2, n2, r2, hl2, e2⟩ := I.lstM hB
  refine PySem.P.add_list e e2 ?_ (by rw [List.size_toArray, List.size_toArray]; omega)
  have ea : its.toArray ++ its2.toArray = (its ++ its2).toArray := by simp
  rw [ea]
  exact ⟨.ref _, _, I.lnew (t' := s.toks) (r.append r2) (by rw [List.length_append]; omega), rfl, q _ I.fresh⟩
/-! ### del xs[i] -/
end

/-! ### xs[a:b] = ys -/
section
variable {prog : Program} {w : World} {A : Around} {E : Value → Shared → Prop} {s : Shared}
end

section
variable {X : Cx}
end
end L2

namespace Att
open PySem PySem.W PySem.Calls PyProof.Rows

/-! ### the script -/
theorem ints_of_wellAll {P : Params} {h : Heap} : ∀ (ns : List Int) (vs : List Value), WellAll P h vs (ns.map WData.int) → IntsAre vs ns := by
  intro ns
  induction ns with
  | nil =>
    intro vs w
    rw [List.map_nil] at w
    cases w
    exact .nil
  | cons n ns ih =>
    intro vs w
    rw [List.map_cons] at w
    cases w with
    | cons a b =>
      cases a
      exact .cons _ _ (ih _ b)

theorem script_of {l : OpenLaw} {n : Nat} (hn : l.most = some n) {P : Params} {h : Heap} {args : List WData} {vals : List Value}
    (hpre : l.row.toRowW.claim.pre args = true) (hwl : WellAll P h vals args) :
    ∃ a vs ns, vals = [Value.ref a] ∧ args = [WData.list (ns.map WData.int)] ∧ h.get? a = some { cls := .type "list", data := .seq vs.toArray } ∧ IntsAre vs ns ∧ ns.length ≤ n := by
  have hsh : WShape.hasAll [] args [.list .int] = true := (pre_splitW hpre).1
  have hc : l.pre.holds [] { args := args } = true := (pre_splitW hpre).2
  obtain ⟨d, r, rfl, h1, h2⟩ := hasAllW_cons hsh
  obtain rfl := hasAllW_nil h2
  obtain ⟨xs, rfl, h3⟩ := hasW_list h1
  obtain ⟨ns, rfl⟩ := items_int h3
  have hlen : ns.length ≤ n := by
    unfold OpenLaw.pre at hc
    have h4 : (WTm.not (.lt (.lit (.int (n : Int))) (.len (.arg 0)))).holds [] { args := [.list (ns.map .int)] } = true := by
      have h4 := (holds_andW hc).1
      rw [hn] at h4
      exact h4
    have h5 := condW_of h4 (w_not (w_lt w_lit (w_len_list (w_arg rfl))))
    rw [List.length_map] at h5
    refine Nat.le_of_not_lt fun q => ?_
    have q' : (n : Int) < ((ns.length : Nat) : Int) := by omega
    first
      | (rw [decide_eq_true q'] at h5; exact absurd h5 (by decide))
      | (simp at h5; omega)
  cases hwl with
  | cons w1 w2 =>
    cases w2
    cases w1 with
    | list ho hall => exact ⟨_, _, ns, rfl, rfl, ho, ints_of_wellAll ns _ hall, hlen⟩

theorem post_true (l : OpenLaw) (args : List WData) : l.row.toRowW.claim.post args (.bool true) args = true :=
  postW_of (r := l.row.toRowW) (X := (true == true))
    (show WShape.has [] (.bool true) .bool = true by first | rfl | decide | simp [WShape.has, WShape.arms, WShape.armsAll])
    (show (WTm.eq .res (.lit (.bool true))).value [] { args := args, res := some (.bool true), after := args } = some (.bool (true == true)) from w_eq_bool (w_res rfl) w_lit) rfl

/-! ### the attachment: holds_open's last premise (the goal 'hc' behind k_head) from a wpAny of the law's body -/
/-- the same from a codeAny of the CALL (for a layer whose function contracts speak of calls) -/
theorem attach_call {l : OpenLaw} {n : Nat} {q : Program} {loose : List Str} {XP : (Str → Option Value) → Heap → Prop} {YP : World → Heap → Prop} {d : DefRec}
    (hn : l.most = some n) (hdf : d.params.defaults = [])
    (call : ∀ (w : World) (s₀ s₁ : Shared) (mg mb : Str → Option Value) (fa : Addr) (o : Obj) (pm cd doc : Value) (a : Addr) (vs : List Value) (ns : List Int),
      Ground q loose [] XP w s₀ mg mb s₁.heap → YP w s₁.heap →
      s₁.heap.get? fa = some o → o.data = .func (docDef d.name d.params d.body d.scope pm cd doc) → s₁.heap.CodeRec cd d.name → mg d.name = some (.ref fa) →
      s₁.heap.get? a = some { cls := .type "list", data := .seq vs.toArray } → IntsAre vs ns → ns.length ≤ n → s₁.gens = #[] →
      codeAny (model l.prog w) callerA (.call (.ref fa) ⟨[.ref a], []⟩) (fun r s' => r = .ok (.ret (.bool true)) ∧ OldK s₁.heap s'.heap ∧ s'.os = s₁.os ∧ AllBare s'.gens) s₁) :
    WalkO q loose XP YP l.row.toRowW d [] (fun f vs => PySem.call f vs) := by
  intro w s₀ s₁ mg mb G Y fa o pm cd doc dV kV ho hd hcd hD hmg hg args vals as hpre hlay hrd hwl hlo
  obtain rfl : dV = .none := Dflts.none hD hdf
  obtain rfl : kV = .none := Dflts.noKw hD
  obtain ⟨a, vs, ns, rfl, rfl, hobj, hints, hlen⟩ := script_of hn hpre hwl
  refine enter_call (codeAny_mono (call w s₀ s₁ mg mb fa o pm cd doc a vs ns G Y ho (fd_plain hd) hcd hmg hobj hints hlen hg) fun r s' hq => ?_)
  obtain ⟨rfl, h2, h3, h4⟩ := hq
  exact ⟨.inl ⟨.bool true, .bool true, [], rfl, fun _ => rfl, .bool true, post_true l _, fun _ => ⟨List.Pairwise.nil, fun _ hm => (nomatch hm)⟩⟩, h2, h3, h4⟩

/-! ### rules over ANY heap (no ledger) from facts about the written part K: the library's own take a ledger (News) for what they write -/
section
variable {prog : Program} {w : World} {A : Around} {E : Value → Shared → Prop} {s : Shared} {K : Frag}

/-! the whole heap as the ledger: makes every rule that writes through a ledger a rule over any heap -/
end
end Att

namespace L2
open PySem PySem.Spec PyProof.Rows

theorem vals_ints : ∀ {vs : List Value} {ns : List Int}, IntsAre vs ns → Vals (ns.map V.int) vs
  | _, _, .nil => .nil
  | _, _, .cons n t h => .cons ⟨t, rfl⟩ (vals_ints h)

end L2

namespace L2
open PySem PySem.Spec PyProof.Rows

end L2

/- THE LAST THEOREM (shape; LID, My.* are yours):
   My.Adr: a structure of the addresses that your layer names (classes, functions); My.Txt K t: a structure (Prop) of the equations over K;
   My.txt_mk : {K} {implicit addresses ..} (e1 : nsIn K mainGlobals "law" = some (some (.ref f))) (e2 : K.lookup f = some ⟨oc, od, .func (fnOf "law" "law" params body scope dV kV doc pm an cdv ct), sl⟩) (e3 : codeIn K cdv "law" = true) .. : ∃ t, My.Txt K t

set_option maxRecDepth 100000 in
set_option maxHeartbeats 0 in
theorem PySem.Challenge.cw_LID_holds : PySem.Challenge.rw_LID.Holds := by
  w_on; o_law; k_head; (case hw => w_witness2)
  k_fill
  refine L2.walk_of (l := PySem.Challenge.rw_LID) (n := 63) (k := 40) (x := "script") (CX := fun w => ..) (sp := fun _ => My.sp_law) rfl (by decide) rfl ⟨rfl, by decide, by decide⟩ (fun w h Y => PySem.W.kIn_of Y) ?F ?S ?C
  case F =>
    intro w mg fa h KX G hmg
    have T : ∃ t, My.Txt (L2.KOf KX) t := by
      dsimp only [L2.KOf]                          -- K must stand as «<heap const> w.params» for k_is
      refine' My.txt_mk ?e1 ?e2 ?e3 ..
      (case e1 => PySem.W.k_is)                    -- in the order: a name -> its address -> its object -> its parts
      (case e2 => PySem.W.k_is)
      ..
    obtain ⟨t, T⟩ := T
    have e0 := hmg.symm.trans (PySem.W.mg_of KX G T.law)
    cases e0                                       -- fa is the law's own address
    exact ⟨_, fun s u => .of_eq rfl, fun base kb nb => My.law_fn T kb nb⟩     -- if «.of_eq rfl» comes too early: refine' ⟨_, ?b, fun base kb nb => My.law_fn T kb nb⟩; exact fun s u => .of_eq rfl
  case S => exact fun w H a ns hl hO hS => ..
  case C => exact ..
(the tactic k_is has no namespace: write k_is) -/

/-! SHORT WORDS over the layer: a def of the text, its body, what a loop and a test want. -/
namespace L2
open PySem PySem.Spec PyProof.Rows

/-! ### the text by places -/
def defArgs (s : Stmt) : Arguments := match s with
  | .FunctionDef _ a _ _ _ _ _ _ _ _ => a
  | _ => { posonlyargs := [], args := [], vararg := none, kwonlyargs := [], kw_defaults := [], kwarg := none, defaults := [] }
def defBody (s : Stmt) : List Stmt := match s with
  | .FunctionDef _ _ b _ _ _ _ _ _ _ => b
  | _ => []
def defScope (s : Stmt) : Scope := match s with
  | .FunctionDef _ _ _ _ _ _ sc _ _ _ => sc
  | _ => { kind := .function, names := [], isGenerator := false, isCoroutine := false }

/-! ### no exception leaves a def -/
abbrev CX0 : CXT := fun _ _ _ _ _ _ => False
abbrev E0 : XK := fun _ _ _ => False
theorem pass0 {X : Cx} : Passes CX0 X E0 := fun _ _ _ _ _ _ _ h => h.elim

/-! ### a def (or method) of the text as it stands behind the top -/
structure Fun (K : PySem.W.Frag) (x qual : Str) (st : Stmt) (f : Addr) (fd : FuncData) : Prop where
  ex : ∃ (oc : Value) (od : Option Addr) (kV doc pm : Value) (an : Option Addr) (cdv ct : Value) (osl : Array (Option Value)),
    fd = PySem.W.fnOf x qual (defArgs st) (defBody st) (defScope st) .none kV doc pm an cdv ct ∧ K.lookup f = some ⟨oc, od, .func fd, osl⟩ ∧ PySem.W.codeIn K cdv qual = true
  kp : PySem.W.keepIn K (.ref f) = true
section
variable {P : Program} {w : World} {K : PySem.W.Frag} {mg : Str → Option Value} {base : Heap}
/-- THE RULE for a def: its body as a term of rules, and the reading of that term -/
theorem Fun.ok {x qual : Str} {st : Stmt} {f : Addr} {fd : FuncData} {N ps : List Str} {k : Nat} {sp : Sp} (F : Fun K x qual st f fd) (S : FnScope N ps (defScope st)) (len : ∀ vs H Q E, sp vs H Q E → vs.length = ps.length)
    (hbody : ∀ (cdv : Value) (A : Around) (outer : List Env) (s : Shared) (H : Hp) (vs : List V) (Q : VK) (E : XK), Room k (A.deeper (envOfC qual (defScope st) s.heap.objs.size f cdv)) → sp vs H Q E →
      ∃ t, PSs (cxOf CX0 P w K mg base N qual (defScope st) f cdv A outer s H E).nox (defBody st) t ∧ t { nx := fun _ H' => Q .non H', rt := Q } (start N vs) H) : FnOk P w K mg base CX0 (k + 1) f fd ps sp := by
  obtain ⟨oc, od, kV, doc, pm, an, cdv, ct, osl, rfl, lk, hcd⟩ := F.ex
  refine fn_of lk hcd S len fun A outer s H vs Q E hr hsp => ?_
  obtain ⟨t, h, q⟩ := hbody cdv A outer s H vs Q E hr hsp
  exact ⟨t, h.nox, q⟩
/-- how its arguments bind (no defaults): h is «fun _ _ _ _ _ _ us hl => match us, hl with | [_, _], _ => rfl», one _ a parameter -/
theorem Fun.binds {x qual : Str} {st : Stmt} {f : Addr} {fd : FuncData} {ps : List Str} (F : Fun K x qual st f fd)
    (h : ∀ (kV doc pm : Value) (an : Option Addr) (cdv ct : Value) (us : List Value), us.length = ps.length → bindArgs (PySem.W.fnOf x qual (defArgs st) (defBody st) (defScope st) .none kV doc pm an cdv ct) ⟨us, []⟩ = pure (ps.zip us)) : Binds K fd ps [] := by
  obtain ⟨oc, od, kV, doc, pm, an, cdv, ct, osl, rfl, lk, hcd⟩ := F.ex
  exact .all (h kV doc pm an cdv ct)
theorem fun_mk {x qual : Str} {st : Stmt} {f : Addr} {oc : Value} {od an : Option Addr} {osl : Array (Option Value)} {kV doc pm cdv ct : Value} (l : K.lookup f = some ⟨oc, od, .func (PySem.W.fnOf x qual (defArgs st) (defBody st) (defScope st) .none kV doc pm an cdv ct), osl⟩)
    (c : PySem.W.codeIn K cdv qual = true) (k : PySem.W.keepIn K (.ref f) = true) : Fun K x qual st f (PySem.W.fnOf x qual (defArgs st) (defBody st) (defScope st) .none kV doc pm an cdv ct) := ⟨⟨oc, od, kV, doc, pm, an, cdv, ct, osl, rfl, l, c⟩, k⟩
end
/-! ### expressions in short: the name that stands in the i-th slot -/
section
variable {X : Cx}
theorem pv (i : Nat) {x : Str} {pos : Pos} (hN : X.N[i]? = some x := by rfl) (hv : Vis X.env.scope x := by first | exact Or.inl rfl | exact Or.inr (Or.inl rfl) | exact Or.inr (Or.inr rfl)) (hd : (x == ("__debug__" : Str)) = false := by decide)
    (hcd : (x == ("__classdict__" : Str)) = false := by decide) : PE X (.Name x pos) (tVar i) := pe_var hN hv hd hcd
end

/-! ### tests -/
theorem iteF {A B : Prop} (h : B) : if false = true then A else B := by
  rw [if_neg Bool.false_ne_true]
  exact h
theorem iteT {A B : Prop} (h : A) : if true = true then A else B := by
  rw [if_pos rfl]
  exact h
theorem ite2 {c A B : Prop} [Decidable c] (h1 : c → A) (h2 : ¬ c → B) : if c then A else B := by
  by_cases h : c
  · rw [if_pos h]
    exact h1 h
  · rw [if_neg h]
    exact h2 h
theorem iteNS {c A B : Prop} [Decidable c] (hc : c) (h : B) : if (!decide c) = true then A else B := by
  rw [decide_eq_true hc]
  exact iteF h

/-! ### heaps -/
/-- all that was tracked is as it was -/
def Same (H H' : Hp) : Prop := ∀ b o, H b = some o → H' b = some o
theorem Same.refl (H : Hp) : Same H H := fun _ _ h => h
theorem Same.trans {H H1 H2 : Hp} (a : Same H H1) (b : Same H1 H2) : Same H H2 := fun c o h => b c o (a c o h)
theorem Same.free {H H' : Hp} (e : Same H H') {l : Addr} (h : H' l = Option.none) : H l = Option.none := by
  cases q : H l with
  | none => rfl
  | some o =>
    rw [e l o q] at h
    cases h
theorem Same.seq {K : PySem.W.Frag} {H H' : Hp} {a : Addr} {xs : List V} (e : Same H H') (h : SqL K H a xs) : SqL K H' a xs := by
  rcases h with (h | ⟨o, h⟩) | h
  · exact .inl (.inl (e _ _ h))
  · exact .inl (.inr ⟨o, e _ _ h⟩)
  · exact .inr h

end L2
end
section
/-! COMPREHENSIONS over the hand layer: the block as a context of its own. -/
namespace L2
open PySem PySem.Spec PyProof.Rows
set_option maxHeartbeats 4000000
set_option Elab.async false
set_option linter.unusedVariables false

/-! ### the names of a block -/
theorem relab_free {env : Env} : ∀ {ns : List (Str × NameKind)} {x : Str}, ns.lookup x = some .free →
    (ns.map fun (n, k) => if (k == NameKind.free && env.scope.kind == .function && env.kindOf n == some .cell) then (n, NameKind.cell) else (n, k)).lookup x = some .cell ∨
    (ns.map fun (n, k) => if (k == NameKind.free && env.scope.kind == .function && env.kindOf n == some .cell) then (n, NameKind.cell) else (n, k)).lookup x = some .free
  | [], _, h => by simp at h
  | (n, k) :: r, x, h => by
    rw [List.map_cons]
    by_cases e : (x == n) = true
    · rw [List.lookup_cons, e] at h
      have hk : k = .free := by simpa using h
      subst hk
      by_cases q : (NameKind.free == NameKind.free && env.scope.kind == .function && env.kindOf n == some .cell) = true
      · left; dsimp only; rw [if_pos q, List.lookup_cons, e]
      · right; dsimp only; rw [if_neg q, List.lookup_cons, e]
    · have e' : (x == n) = false := by simpa using e
      rw [List.lookup_cons, e'] at h
      have ih := relab_free (env := env) h
      dsimp only
      split <;> (rw [List.lookup_cons, e']; exact ih)
theorem relab_back {env : Env} : ∀ {ns : List (Str × NameKind)} {x : Str} {k : NameKind}, (∀ y ∈ ns, y.2 ≠ .cell) → (k = .cell ∨ k = .free) →
    (ns.map fun (n, k) => if (k == NameKind.free && env.scope.kind == .function && env.kindOf n == some .cell) then (n, NameKind.cell) else (n, k)).lookup x = some k → (x, NameKind.free) ∈ ns
  | [], _, _, _, _, h => by simp at h
  | (n, k') :: r, x, k, nc, hk, h => by
    rw [List.map_cons] at h
    have ih := relab_back (env := env) (ns := r) (x := x) (k := k) (fun y hy => nc y (List.mem_cons_of_mem _ hy)) hk
    by_cases e : (x == n) = true
    · have ex : x = n := by simpa using e
      subst ex
      by_cases q : (k' == NameKind.free && env.scope.kind == .function && env.kindOf x == some .cell) = true
      · have : k' = .free := by
          cases k' <;> first | rfl | (simp at q)
        subst this
        exact List.mem_cons_self
      · dsimp only at h
        rw [if_neg q, List.lookup_cons, e] at h
        have : k' = k := by simpa using h
        subst this
        rcases hk with z | z
        · exact absurd z (nc (x, k') List.mem_cons_self)
        · subst z; exact List.mem_cons_self
    · have e' : (x == n) = false := by simpa using e
      refine List.mem_cons_of_mem _ (ih ?_)
      dsimp only at h
      split at h <;> (rw [List.lookup_cons, e'] at h; exact h)

/-! ### what a block closes over -/
theorem clos_step {env : Env} : ∀ (ns : List (Str × NameKind)) (acc : List (Str × Addr)), (∀ y ∈ ns, y.2 = .free → ∃ c, env.cells.lookup y.1 = some c) →
    (∀ x c, acc.lookup x = some c → env.cells.lookup x = some c) →
    ∃ cl : List (Str × Addr), (forIn ns acc fun x r => (match x with | (name, kind) => if (kind == NameKind.free) = true then do let c ← cellOf env name; pure (ForInStep.yield ((name, c) :: r)) else pure (ForInStep.yield r) : Sem (ForInStep (List (Str × Addr)))) : Sem (List (Str × Addr))) = pure cl ∧
      (∀ x c, cl.lookup x = some c → env.cells.lookup x = some c) ∧ (∀ x, (x, NameKind.free) ∈ ns → ∃ c, cl.lookup x = some c) ∧ ∀ x c, acc.lookup x = some c → ∃ c', cl.lookup x = some c'
  | [], acc, _, hacc => ⟨acc, rfl, hacc, fun _ h => absurd h (by simp), fun x c h => ⟨c, h⟩⟩
  | (n, k) :: r, acc, hfr, hacc => by
    by_cases q : (k == NameKind.free) = true
    · have hk : k = .free := by cases k <;> first | rfl | (simp at q)
      subst hk
      obtain ⟨c, hc⟩ := hfr (n, .free) List.mem_cons_self rfl
      have hof : cellOf env n = pure c := by unfold cellOf; rw [hc]
      obtain ⟨cl, h1, h2, h3, h4⟩ := clos_step (env := env) r ((n, c) :: acc) (fun y hy => hfr y (List.mem_cons_of_mem _ hy)) (fun x c' h => by
        by_cases e : (x == n) = true
        · have ex : x = n := by simpa using e
          subst ex
          rw [List.lookup_cons, e] at h
          have : c = c' := by simpa using h
          rw [← this]; exact hc
        · have e' : (x == n) = false := by simpa using e
          rw [List.lookup_cons, e'] at h
          exact hacc x c' h)
      refine ⟨cl, ?_, h2, fun x hx => ?_, fun x c' h => ?_⟩
      · rw [List.forIn_cons]
        dsimp only
        rw [if_pos q, hof]
        exact h1
      · rcases List.mem_cons.mp hx with e | e
        · cases e
          exact h4 n c (by simp)
        · exact h3 x e
      · by_cases e : (x == n) = true
        · have ex : x = n := by simpa using e
          subst ex
          exact h4 x c (by simp)
        · have e' : (x == n) = false := by simpa using e
          exact h4 x c' (by rw [List.lookup_cons, e']; exact h)
    · obtain ⟨cl, h1, h2, h3, h4⟩ := clos_step (env := env) r acc (fun y hy => hfr y (List.mem_cons_of_mem _ hy)) hacc
      refine ⟨cl, ?_, h2, fun x hx => ?_, h4⟩
      · rw [List.forIn_cons]
        dsimp only
        rw [if_neg q]
        exact h1
      · rcases List.mem_cons.mp hx with e | e
        · cases e
          exact absurd rfl q
        · exact h3 x e
theorem clos_of {env : Env} {scope : Scope} (hfr : ∀ y ∈ scope.names, y.2 = .free → ∃ c, env.cells.lookup y.1 = some c) :
    ∃ cl : List (Str × Addr), closureFor scope env = pure cl ∧ (∀ x c, cl.lookup x = some c → env.cells.lookup x = some c) ∧ ∀ x, (x, NameKind.free) ∈ scope.names → ∃ c, cl.lookup x = some c := by
  obtain ⟨cl, h1, h2, h3, _⟩ := clos_step (env := env) scope.names [] hfr (fun x c h => by simp at h)
  refine ⟨cl, ?_, h2, h3⟩
  unfold closureFor
  dsimp only
  rw [h1]
  rfl

/-! ### the block -/
/-- the outer names' values, behind nt targets -/
def inner (nt : Nat) (js : List Nat) (σ : St) : St := List.replicate nt none ++ js.map fun j => (σ[j]?).join
/-- the context of the block -/
def blk (X : Cx) (N : List Str) (scope : Scope) (cl : List (Str × Addr)) (C : Addr) (s : Shared) (H : Hp) (fp : List Addr) : Cx :=
  { X with N := N, s₀ := s, H₀ := H, env := compEnvC scope cl C X.env, outer := X.stack, ex := fp, fn := fun _ => false, pn := [], xe := fun _ _ => False }
/-- what a block asks of the two scopes: sc the outer one, N0 the outer names -/
structure Blk (sc : Scope) (N0 : List Str) (N : List Str) (nt : Nat) (js : List Nat) (scope : Scope) : Prop where
  kind : scope.kind = .function
  loc : ∀ y ∈ scope.names, y.2 = .local → scope.names.lookup y.1 = some .local
  nocell : ∀ y ∈ scope.names, y.2 ≠ .cell
  cap : ∀ y ∈ scope.names, y.2 = .free → sc.names.lookup y.1 = some .cell ∨ sc.names.lookup y.1 = some .free
  len : N.length = nt + js.length
  out : N.drop nt = js.map fun j => N0.getD j ""
  js : ∀ j ∈ js, j < N0.length
  fr : ∀ x ∈ N.drop nt, scope.names.lookup x = some .free
  nd : N.Nodup

theorem inner_get {nt : Nat} {js : List Nat} {σ : St} {i : Nat} {v : V} (h : (inner nt js σ)[i]? = some (some v)) : ∃ k j, i = nt + k ∧ js[k]? = some j ∧ σ[j]? = some (some v) := by
  unfold inner at h
  by_cases hi : i < nt
  · rw [List.getElem?_append_left (by simpa using hi), List.getElem?_replicate, if_pos hi] at h
    cases h
  · rw [List.getElem?_append_right (by simpa using hi), List.length_replicate, List.getElem?_map] at h
    cases e : js[i - nt]? with
    | none => rw [e] at h; cases h
    | some j =>
      rw [e] at h
      refine ⟨i - nt, j, by omega, e, ?_⟩
      have h' : (σ[j]?).join = some v := by simpa using h
      cases e2 : σ[j]? with
      | none => rw [e2] at h'; cases h'
      | some o => rw [e2] at h'; cases o with
        | none => cases h'
        | some w => have : w = v := by simpa using h'
                    rw [this]

section
variable {X : Cx} {pins : List (Addr × Obj)} {σ : St} {H : Hp} {s : Shared} {N : List Str} {nt : Nat} {js : List Nat} {scope : Scope} {cl : List (Str × Addr)} {fp : List Addr}
theorem blk_start {h' : Heap} {tk : Nat} (I : Inv X pins σ H s) (B : Blk X.env.scope X.N N nt js scope)
    (c1 : ∀ x c, cl.lookup x = some c → X.env.cells.lookup x = some c) (c2 : ∀ x, (x, NameKind.free) ∈ scope.names → ∃ c, cl.lookup x = some c)
    (hf : ∀ b ∈ fp, FpOk X pins H b) (hlt : ∀ b ∈ fp, b < s.heap.objs.size)
    (kp : ∀ b o, s.heap.get? b = some o → h'.get? b = some o) (hC : h'.Ns (s.heap.objs.size + 1) fun _ => none)
    (hD : h'.get? s.heap.objs.size = some { cls := .type "list", data := .seq ([] : List Value).toArray 0 }) :
    Inv (blk X N scope cl (s.heap.objs.size + 1) s H fp) [] (inner nt js σ) (upd H s.heap.objs.size (.lst [])) { s with heap := h', toks := tk } := by
  have hfr : ∀ a, s.heap.objs.size ≤ a → H a = none := fun a ha => I.hok.fresh ha
  have cold : ∀ x c, X.env.cells.lookup x = some c → c < s.heap.objs.size := fun x c e => by
    obtain ⟨v, q⟩ := I.cell x c e
    exact q.lt
  refine ⟨⟨I.ok.mod, B.kind, I.ok.glob, I.ok.blt, Nat.le_succ _, fun x y c a b => I.ok.inj x y c (c1 x c a) (c1 y c b), fun x hx => ?_, fun x c z _ => absurd z Bool.false_ne_true, I.ok.hd, I.ok.frames, .inl rfl, fun b hb => ?_, I.bs, Nat.le_trans I.ok.bsz I.sz, fun b o e hb => ?_, fun b hb z => ?_, I.stack, I.stkFree⟩,
    rfl, I.bare, Un.laid kp (Nat.le_refl _) (hfr _ (Nat.le_refl _)), ⟨_, hC, fun i x v h1 h2 h3 => ?_⟩, fun x c e => ?_, ?_, fun x c e => ?_, fun p hp => absurd (show p ∈ ([] : List (Addr × Obj)) from hp) (by simp), I.hok.laid kp (Nat.le_refl _) ⟨Nat.zero_le _, [], 0, .nil, hD⟩, ?_⟩
  · have : (x, NameKind.free) ∈ scope.names := hx.elim (fun z => relab_back B.nocell (.inl rfl) z) fun z => relab_back B.nocell (.inr rfl) z
    exact c2 x this
  · refine ⟨Nat.ne_of_lt (Nat.lt_succ_of_lt (hlt b hb)), fun x c e => (hf b hb).2.2.2.2.1 x c (c1 x c e)⟩
  · rcases (hf b hb).2.2.2.1 with z | z
    · exact I.ok.noex b o e z
    · exact absurd (Nat.lt_of_lt_of_le (Heap.lt_size (I.ok.bs b o e).1) z) (Nat.lt_irrefl _)
  · rcases List.mem_cons.mp (I.stkSub b z) with q | q
    · exact (hf b hb).2.1 q
    · exact (hf b hb).2.2.1 q
  · obtain ⟨k, j, rfl, hk, hv⟩ := inner_get h2
    have hkl : k < js.length := (List.getElem?_eq_some_iff.mp hk).1
    have h1' : (N.drop nt)[k]? = some x := by rw [List.getElem?_drop]; exact h1
    have hxm : x ∈ N.drop nt := List.mem_of_getElem? h1'
    have hfree : scope.names.lookup x = some .free := B.fr x hxm
    have hj : X.N[j]? = some x := by
      rw [B.out, List.getElem?_map, hk] at h1'
      have hjl : j < X.N.length := B.js j (List.mem_of_getElem? hk)
      rw [List.getElem?_eq_getElem hjl]
      have e : X.N.getD j "" = x := by simpa using h1'
      rw [← e]
      simp [List.getD_eq_getElem?_getD, List.getElem?_eq_getElem hjl]
    have hcap := B.cap _ (PySem.mem_of_lookup hfree) rfl
    obtain ⟨m, hn, hl⟩ := I.loc
    obtain ⟨u, ru, lk⟩ := hl j x v hj hv (hcap.elim (fun z => .inr (.inl z)) fun z => .inr (.inr z))
    refine ⟨u, ru, .inr ⟨relab_free hfree, ?_⟩⟩
    rcases lk with ⟨z, _⟩ | ⟨_, c, e, q⟩
    · exact absurd (show X.env.scope.names.lookup x = some .local from z) (by rcases hcap with y | y <;> (rw [y]; decide))
    · obtain ⟨c', e'⟩ := c2 x (PySem.mem_of_lookup hfree)
      have ec := c1 x c' e'
      rw [e] at ec
      cases ec
      obtain ⟨o, ho, hd⟩ := q
      exact ⟨c, e', o, kp c o ho, hd⟩
  · obtain ⟨v, o, ho, hd⟩ := I.cell x c (c1 x c e)
    exact ⟨v, o, kp c o ho, hd⟩
  · show upd H _ _ (s.heap.objs.size + 1) = none
    rw [upd_ne (Nat.ne_of_gt (Nat.lt_succ_self _))]
    exact hfr _ (Nat.le_succ _)
  · show upd H _ _ c = none
    rw [upd_ne (Nat.ne_of_lt (cold x c (c1 x c e)))]
    exact I.freeC x c (c1 x c e)
  · show (inner nt js σ).length = N.length
    unfold inner
    rw [List.length_append, List.length_replicate, List.length_map, B.len]
end

/-! ### the tests of a clause -/
def PTs (X : Cx) (ifs : List Expr) (t : TT) : Prop :=
  ∀ (pins : List (Addr × Obj)) (s : Shared) (σ : St) (H : Hp) (Q : Bool → Hp → Prop), Inv X pins σ H s → t σ H Q →
    wpAny (model X.prog X.w) X.A (forIn ifs true fun c r => if r = true then do let ok ← isTrue c X.env (eval c X.env); pure (ForInStep.yield ok) else pure (ForInStep.yield r)) (TP X pins σ Q) X.xe s
def tYes : TT := fun _ H Q => Q true H
theorem pts_nil {X : Cx} : PTs X [] tYes := fun _ _ _ H _ I h => wpAny_tests_nil ⟨H, I, h⟩
theorem pts_one {X : Cx} {c : Expr} {t : TT} (h : PT X c t) : PTs X [c] t := fun pins s σ H Q I q => wpAny_tests_one (h pins s σ H Q I q)

/-! ### the loop -/
section
variable {prog : Program} {w : World} {A : Around} {s : Shared} {R : Result → Shared → Prop}
theorem comp_turns {elt tg iter : Expr} {ifs : List Expr} {scope : Scope} {pos : Pos} {it acc : Value} {env : Env} (J : Nat → Shared → Prop)
    (turn : ∀ n s, J n s → wpAny (model prog w) A (pyNext it) (fun r s1 => match r with
      | none => R (.ok .next) s1
      | some v => wpAny (model prog w) A (letOwnedTupleGo tg it v) (fun _ s2 => wpAny (model prog w) A (assign tg env v) (fun _ s3 =>
          wpAny (model prog w) A (forIn ifs true fun c r => if r = true then do let ok ← isTrue c env (eval c env); pure (ForInStep.yield ok) else pure (ForInStep.yield r)) (fun ok s4 =>
            if ok = true then wpAny (model prog w) A (eval elt env) (fun x s5 => wpAny (model prog w) A (call (.builtin "list.append") [acc, x]) (fun _ s6 => ∃ m, m < n ∧ J m s6) (fun _ _ => False) s5) (fun _ _ => False) s4
            else ∃ m, m < n ∧ J m s4) (fun _ _ => False) s3) (fun _ _ => False) s2) (fun _ _ => False) s1) (fun _ _ => False) s)
    (n : Nat) (h : J n s) : codeAny (model prog w) A (.compLoop (.ListComp elt [⟨tg, iter, ifs, 0⟩] scope pos) 0 it acc env) R s := by
  refine codeAny_loop rfl J (fun k s' hJ => ?_) n h
  show wpAny _ A ((compTurn (.ListComp elt [⟨tg, iter, ifs, 0⟩] scope pos) 0 it acc env).onRaise (fun x => do noteFrame x env; theTreesLotGoes x)) _ _ s'
  refine wpAny_noted ?_
  rw [compTurn_list]
  refine wpAny_bind (wpAny_standAt (wpAny_bind (wpAny_mono (turn k s' hJ) (fun r s1 q1 => ?_) fun _ _ z => z.elim)))
  cases r with
  | none => exact wpAny_pure q1
  | some v =>
    refine wpAny_bind (wpAny_mono q1 (fun _ s2 q2 => wpAny_bind (wpAny_mono q2 (fun _ s3 q3 => wpAny_bind (wpAny_mono q3 (fun ok s4 q4 => ?_) fun _ _ z => z.elim)) fun _ _ z => z.elim)) fun _ _ z => z.elim)
    cases ok with
    | false => exact wpAny_pure ⟨rfl, q4⟩
    | true => exact wpAny_bind (wpAny_bind (wpAny_mono q4 (fun x s5 q5 => wpAny_bind (wpAny_mono q5 (fun _ s6 q6 => wpAny_pure (wpAny_pure ⟨rfl, q6⟩)) fun _ _ z => z.elim)) fun _ _ z => z.elim))
end

/-! ### THE RULE -/
/-- W: the invariant by the turn and a measure; D: the new list -/
def cmpW (J : It) (g : TG) (tt : TT) (te : TE) (Q : VK) (D : Addr) (σ0 : St) (H1 : Hp) : Prop := ∃ W : Nat → Nat → St → Hp → Prop, (∃ m, W 0 m σ0 (upd H1 D (.lst []))) ∧
  ∀ i m σ' H', W i m σ' H' → (J.stop i H' ∧ Q (.ref D) H') ∨ (J.go i H' ∧ ∀ x H2, J.yld i H' x H2 → g x σ' H2 fun σ3 H3 => tt σ3 H3 fun ok H4 =>
    if ok = true then te σ3 H4 fun y H5 => ∃ ys, H5 D = some (.lst ys) ∧ ys.length < sizeLine ∧ ∃ m', m' < m ∧ W (i + 1) m' σ3 (upd H5 D (.lst (ys ++ [y]))) else ∃ m', m' < m ∧ W (i + 1) m' σ3 H4)
def tComp (nt : Nat) (js : List Nat) (wi : TI) (g : TG) (tt : TT) (te : TE) : TE := fun σ H Q => wi σ H fun J H1 => ∀ D, H1 D = none → cmpW J g tt te Q D (inner nt js σ) H1
theorem pe_comp {X : Cx} {elt tg iter : Expr} {ifs : List Expr} {scope : Scope} {pos : Pos} {N : List Str} {nt : Nat} {js : List Nat} {sc : Scope} {N0 : List Str} {wi : TI} {g : TG} {tt : TT} {te : TE}
    (hc : X.calm = true) (hsc : X.env.scope = sc) (hN : X.N = N0) (B : Blk sc N0 N nt js scope) (hi : PI X tg iter wi)
    (hg : ∀ cl C s H fp, PG (blk X N scope cl C s H fp) tg g) (ht : ∀ cl C s H fp, PTs (blk X N scope cl C s H fp) ifs tt) (he : ∀ cl C s H fp, PE (blk X N scope cl C s H fp) elt te)
    (hs : ∀ x, foldedSetIterable iter X.env x = pure x := by intro _; rfl) : PE X (.ListComp elt [⟨tg, iter, ifs, 0⟩] scope pos) (tComp nt js wi g tt te) := by
  subst hsc hN
  intro pins s σ H Q I h
  obtain ⟨cl, hcl, c1, c2⟩ := clos_of (env := X.env) (scope := scope) fun y hy hk => I.ok.has y.1 (B.cap y hy hk)
  rw [eval_ListComp]
  refine wpAny_comprehension_free (use := none) rfl hs hcl B.kind B.loc (thn (hi pins s σ H _ I h) fun v s1 q1 => thn q1 fun itv s2 q2 => ?_)
  obtain ⟨it, fp, tn, J, H2, e, I2, T, st2, f2, q2⟩ := q2
  subst e
  obtain ⟨W, ⟨m0, w0⟩, turn⟩ := q2 s2.heap.objs.size (I2.hok.fresh (Nat.le_refl _))
  have hlt : ∀ b ∈ fp, b < s2.heap.objs.size := fun b hb => by
    obtain ⟨o, eo, _⟩ := T.obj _ _ st2 b hb
    exact Heap.lt_size eo
  refine wpAny_newObj_type (wpAny_newFunctionEnv B.nocell (by intro y hy; simp at hy) (fun h1 hns hsb => ?_) B.kind)
  dsimp only at hns hsb ⊢
  have hsz : (s2.heap.push { cls := .type "list", dict := none, data := .seq ([] : List Value).toArray }).objs.size = s2.heap.objs.size + 1 := by rw [Heap.size_push]
  have old : ∀ b o, s2.heap.get? b = some o → h1.get? b = some o := fun b o eb => hsb.extBut b o (by rw [hsz]; exact Nat.ne_of_lt (Nat.lt_succ_of_lt (Heap.lt_size eb))) (Heap.get?_push_of_some _ (Heap.get?_push_of_some _ eb))
  have hD : h1.get? s2.heap.objs.size = some { cls := .type "list", data := .seq ([] : List Value).toArray 0 } := hsb.extBut _ _ (by rw [hsz]; exact Nat.ne_of_lt (Nat.lt_succ_self _)) (Heap.get?_push_of_some _ (Heap.get?_push_size _ rfl))
  rw [hsz] at hns
  have I3 := blk_start (cl := cl) (fp := fp) (tk := s2.toks + ([] : List (Str × Value)).length) I2 B c1 c2 f2 hlt old (show h1.Ns (s2.heap.objs.size + 1) fun _ => none from hns) hD
  have stat : ∀ {H' : Hp}, (∀ b ∈ fp, H' b = none) → ∀ b ∈ fp, FpOk (blk X N scope cl (s2.heap.objs.size + 1) s2 H2 fp) [] H' b := fun {H'} hn b hb =>
    ⟨hn b hb, Nat.ne_of_lt (Nat.lt_succ_of_lt (hlt b hb)), fun z => (List.mem_cons.mp (I2.stkSub b z)).elim (f2 b hb).2.1 (f2 b hb).2.2.1, .inl hb, fun x c ec => (f2 b hb).2.2.2.2.1 x c (c1 x c ec), fun p hp => absurd (show p ∈ ([] : List (Addr × Obj)) from hp) (by simp)⟩
  have fin : ∀ {i : Nat} {σ' : St} {H' : Hp} {s' : Shared}, Inv (blk X N scope cl (s2.heap.objs.size + 1) s2 H2 fp) [] σ' H' s' → Q (.ref s2.heap.objs.size) H' →
      compPost (model X.prog X.w) X.A X.xe none (EP X pins σ Q) (.ref s2.heap.objs.size) (s2.heap.objs.size + 1) (.ok .next) s' := fun {i σ' H' s'} Ib q => by
    obtain ⟨m, hn, _⟩ := id Ib.loc
    refine ⟨m, hn, fun h'' hs'' => ?_⟩
    have I4 : Inv X pins σ H' s' := I2.call' Ib.os Ib.base Ib.hok Ib.bare fun b hb => ⟨(f2 b hb).2.2.2.1, (f2 b hb).2.1, (f2 b hb).2.2.2.2.1, (f2 b hb).2.2.2.2.2⟩
    obtain ⟨g0, g1, g2, g3, g4, g5⟩ := I2.fpOk (H' := H') (Nat.le_succ _) Ib.free
    exact ⟨.ref s2.heap.objs.size, H', I4.turned (t' := s'.toks) (fun b o hb eb => hs''.extBut b o hb eb) g0 g1 g3 g4 g5, rfl, q⟩
  have loop : codeAny (model X.prog X.w) X.A (.compLoop (.ListComp elt [⟨tg, iter, ifs, 0⟩] scope pos) 0 (.ref it) (.ref s2.heap.objs.size) (compEnvC scope cl (s2.heap.objs.size + 1) X.env))
      (compPost (model X.prog X.w) X.A X.xe none (EP X pins σ Q) (.ref s2.heap.objs.size) (s2.heap.objs.size + 1)) { s2 with heap := h1, toks := s2.toks + ([] : List (Str × Value)).length } := by
    refine comp_turns (fun n s' => ∃ i σ' H', Inv (blk X N scope cl (s2.heap.objs.size + 1) s2 H2 fp) [] σ' H' s' ∧ tn i s'.heap ∧ (∀ b ∈ fp, H' b = none) ∧ W i n σ' H') ?_ m0
      ⟨0, _, _, I3, T.keep _ _ _ st2 fun b _ o eb => old b o eb, fun b hb => ?_, w0⟩
    · rintro n s3 ⟨i, σ3, H3, J3, st3, fr3, w3⟩
      rcases turn i n σ3 H3 w3 with ⟨stop, qn⟩ | ⟨go, step⟩
      · refine thn (T.done (blk X N scope cl (s2.heap.objs.size + 1) s2 H2 fp) rfl rfl rfl hc i [] s3 σ3 H3 _ J3 (stat fr3) st3 stop) fun r s4 ⟨hr, I4⟩ => ?_
        subst hr
        exact fin (i := i) I4 qn
      · refine thn (T.item (blk X N scope cl (s2.heap.objs.size + 1) s2 H2 fp) rfl rfl rfl hc i [] s3 σ3 H3 _ J3 (stat fr3) st3 go) fun r s4 ⟨u, hr, h4⟩ => ?_
        subst hr
        refine thn h4 fun _ s5 ⟨x, H5, I5, r5, y5, st5, fr5⟩ => ?_
        have I5' := I5.pinned (stat fr5) (T.obj _ _ st5)
        refine thn (hg _ _ _ _ _ _ s5 σ3 H5 x u _ I5' r5 (step x H5 y5)) fun _ s6 ⟨σ6, H6, I6, q6⟩ => ?_
        have again : ∀ {σ7 : St} {H7 : Hp} {s7 : Shared} {k : Nat}, Inv (blk X N scope cl (s2.heap.objs.size + 1) s2 H2 fp) ([] ++ pinsAt fp s5.heap) σ7 H7 s7 → k < n → W (i + 1) k σ7 H7 →
            ∃ k, k < n ∧ ∃ i σ' H', Inv (blk X N scope cl (s2.heap.objs.size + 1) s2 H2 fp) [] σ' H' s7 ∧ tn i s7.heap ∧ (∀ b ∈ fp, H' b = none) ∧ W i k σ' H' := fun {σ7 H7 s7 k} I7 hk w7 => by
          refine ⟨k, hk, i + 1, σ7, H7, I7.unpinned, T.keep _ _ _ st5 fun b hb o eb => (I7.pin (b, o) (List.mem_append_right _ (List.mem_append_right _ (mem_pinsAt hb eb)))).1, fun b hb => ?_, w7⟩
          obtain ⟨o, eb, _⟩ := T.obj _ _ st5 b hb
          exact (I7.pin (b, o) (List.mem_append_right _ (List.mem_append_right _ (mem_pinsAt hb eb)))).2.1
        refine thn (ht _ _ _ _ _ _ s6 σ6 H6 _ I6 q6) fun ok s7 ⟨H7, I7, q7⟩ => ?_
        cases ok with
        | false =>
          rw [if_neg Bool.false_ne_true] at q7 ⊢
          obtain ⟨k, hk, w7⟩ := q7
          exact again I7 hk w7
        | true =>
          rw [if_pos rfl] at q7 ⊢
          refine thn (he _ _ _ _ _ _ s7 σ6 H7 _ I7 q7) fun y s8 ⟨v8, H8, I8, r8, ys, e8, z8, k, hk, w8⟩ => ?_
          refine thn (mt_append _ s8 σ6 H8 (.ref s2.heap.objs.size) [v8] _ [y] (fun _ H9 => W (i + 1) k σ6 H9) I8 rfl (.cons r8 .nil) ⟨_, ys, v8, rfl, rfl, e8, z8, w8⟩) fun _ s9 ⟨_, H9, I9, _, w9⟩ => ?_
          exact again I9 hk w9
    · show upd H2 _ _ b = none
      rw [upd_ne (Nat.ne_of_lt (hlt b hb))]
      exact (f2 b hb).1
  rw [hsz]
  exact codeAny_compStart_list loop (T.self _ 0 _ _ _ (T.keep _ _ _ st2 fun b _ o eb => old b o eb) loop)
end L2
end
section
/-! SMALL RULES over the hand layer. -/
namespace L2
open PySem PySem.Spec PyProof.Rows
set_option maxHeartbeats 4000000
set_option Elab.async false
set_option linter.unusedVariables false

section
variable {X : Cx}
/-! ### is True, is False -/
/-! ### isinstance of a built-in type -/
/-- what a value is, by the abstract heap -/
inductive Kn (H : Hp) : V → String → Prop where
  | non : Kn H .non "NoneType"
  | bl (b : Bool) : Kn H (.bl b) "bool"
  | int (i : Int) : Kn H (.int i) "int"
  | str (x : Str) : Kn H (.str x) "str"
  | lst {a : Addr} {xs : List V} (e : H a = some (.lst xs)) : Kn H (.ref a) "list"
  | tup {a : Addr} {xs : List V} (e : H a = some (.tup xs)) : Kn H (.ref a) "tuple"
  | dK {a : Addr} {kvs : List (Key × V)} (e : H a = some (.dK kvs)) : Kn H (.ref a) "dict"
theorem Kn.ty {K : PySem.W.Frag} {H : Hp} {v : V} {T : String} (h : Kn H v T) : TyOf K H v (.type T) := by
  cases h with
  | non => exact .non
  | bl b => exact .bl b
  | int i => exact .int i
  | str x => exact .str x
  | lst e => exact .lst e
  | tup e => exact .tup e
  | dK e => exact .dK e
def subT (T U : String) : Bool := T == U || (T == "bool" && U == "int")
theorem kit_int {K : PySem.W.Frag} {H : Hp} {v : V} {T : String} (h : Kn H v T) : PySem.W.kitOne K (.type T) (.type "int") = some (subT T "int") := by
  cases h <;> rfl
theorem kit_bool {K : PySem.W.Frag} {H : Hp} {v : V} {T : String} (h : Kn H v T) : PySem.W.kitOne K (.type T) (.type "bool") = some (subT T "bool") := by
  cases h <;> rfl
theorem kit_tuple {K : PySem.W.Frag} {H : Hp} {v : V} {T : String} (h : Kn H v T) : PySem.W.kitOne K (.type T) (.type "tuple") = some (subT T "tuple") := by
  cases h <;> rfl
theorem kit_list {K : PySem.W.Frag} {H : Hp} {v : V} {T : String} (h : Kn H v T) : PySem.W.kitOne K (.type T) (.type "list") = some (subT T "list") := by
  cases h <;> rfl
theorem call_isi : CallR X (.builtin "isinstance") (fun xs H Q => ∃ x T U, xs = [x, .ty U] ∧ Kn H x T ∧ (U = "int" ∨ U = "bool" ∨ U = "tuple" ∨ U = "list") ∧ Q (.bl (subT T U)) H) := by
  intro pins s σ H xs us Q I r h
  obtain ⟨x, T, U, rfl, hk, hU, q⟩ := h
  obtain ⟨u, c, rfl, rx, rc⟩ := vals2 r
  cases (show c = Value.type U from rc)
  refine isinst_ok I rx hk.ty (b := subT T U) ?_ fun tk => ⟨.bl (subT T U), H, I.tok tk, rfl, q⟩
  rcases hU with rfl | rfl | rfl | rfl
  · exact kit_int hk
  · exact kit_bool hk
  · exact kit_tuple hk
  · exact kit_list hk

/-! ### all of a list of bools -/
theorem call_allB (hc : X.calm = true) : CallR X (.builtin "all") (fun xs H Q => ∃ (p : Addr) (bs : List Bool), xs = [.ref p] ∧ SqL X.K H p (bs.map V.bl) ∧ Q (.bl (bs.all id)) H) := by
  intro pins s σ H xs us Q I r h
  obtain ⟨p, bs, rfl, hq, q⟩ := h
  obtain ⟨u, rfl, rx⟩ := vals1 r
  cases (show u = Value.ref p from rx)
  obtain ⟨its, r', pl, hz⟩ := I.list hq
  have hsz : its.length = bs.length := by have := r'.length; rw [List.length_map] at this; exact this.symm
  refine call_all_walk (wpAny_pyIter_list pl.isList ?_)
  have hne : p ≠ s.heap.objs.size := by
    obtain ⟨o, ho, _⟩ := pl.isList
    exact Nat.ne_of_lt (Heap.lt_size ho)
  refine ⟨_, _, _, its.toArray.size, _, _, fun i => bs.getD i true, rfl, Walks.list (A := X.A.in1) (show X.A.in1.handled = none from I.ok.hd hc) s.heap.objs.size p hne its.toArray, ⟨⟨_, Heap.get?_push_size _ rfl, rfl, rfl⟩, pl.isList.push _⟩, ?_, ?_⟩
  · intro i v s' Q' E' hP hQ
    have hv : its[i]? = some v := by simpa using hP
    have hi : i < its.length := (List.getElem?_eq_some_iff.mp hv).1
    have hb : (bs.map V.bl)[i]? = some (V.bl (bs.getD i true)) := by
      rw [List.getElem?_map, List.getElem?_eq_getElem (by omega)]
      simp [List.getD_eq_getElem?_getD, List.getElem?_eq_getElem (show i < bs.length by omega)]
    obtain ⟨w', hw, rw'⟩ := r'.get hb
    rw [hv] at hw
    cases hw
    cases (show v = Value.bool _ from rw')
    exact wpAny_truthy_bool hQ
  · intro h' tk hk
    have e : (List.range its.toArray.size).all (fun i => bs.getD i true) = bs.all id := by
      rw [List.size_toArray, hsz]
      rw [Bool.eq_iff_iff, List.all_eq_true, List.all_eq_true]
      constructor
      · intro h1 x hx
        obtain ⟨i, hi, rfl⟩ := List.getElem_of_mem hx
        have := h1 i (List.mem_range.mpr hi)
        rw [List.getD_eq_getElem?_getD, List.getElem?_eq_getElem hi] at this
        exact this
      · intro h1 i hi
        have hi' := List.mem_range.mp hi
        rw [List.getD_eq_getElem?_getD, List.getElem?_eq_getElem hi']
        exact h1 _ (List.getElem_mem hi')
    rw [e]
    refine ⟨.bl (bs.all id), H, I.kept (t' := tk) fun b o eb => hk b o (fun z => ?_) (Heap.get?_push_of_some _ eb), rfl, q⟩
    have : b = s.heap.objs.size := by simpa using z
    exact absurd (Heap.lt_size eb) (by rw [this]; exact Nat.lt_irrefl _)

/-! ### t + u of any tuples -/
def rCatA (K : PySem.W.Frag) : R2 := fun x y H Q => ∃ a b xs ys, x = .ref a ∧ y = .ref b ∧ H a = some (.tup xs) ∧ H b = some (.tup ys) ∧ xs.length + ys.length ≤ sizeLine ∧
  ∀ p H', Same H H' → H' p = some (.tup (xs ++ ys)) → Q (.ref p) H'
theorem same_new {H : Hp} {p : Addr} (h : H p = none) (o : HO) : Same H (upd H p o) := fun b u q => by rw [upd_ne (ne_of_none q h)]; exact q
theorem op_catA : OpR X (binaryOp .Add) (rCatA X.K) := by
  intro pins s σ H x y v u Q I rx ry h
  obtain ⟨a, b, xs, ys, rfl, rfl, ha, hb, hz, q⟩ := h
  cases (show v = Value.ref a from rx)
  cases (show u = Value.ref b from ry)
  obtain ⟨its, r1, t1, z1⟩ := I.tuple (SqT.of ha)
  obtain ⟨jts, r2, t2, z2⟩ := I.tuple (SqT.of hb)
  have l1 := r1.length
  have l2 := r2.length
  by_cases hx : its = []
  · subst hx
    have ex : xs = [] := List.length_eq_zero_iff.mp l1
    subst ex
    obtain ⟨⟨cls, dd, data, sl⟩, ho, hc, n, hd⟩ := id t1
    obtain ⟨⟨cls2, dd2, data2, sl2⟩, ho2, hc2, n2, hd2⟩ := id t2
    simp only at hc hd hc2 hd2
    subst hc hd hc2 hd2
    exact concat_meets ⟨_, ho, rfl⟩ ⟨_, ho2, rfl⟩ noFill_tuple_add seq_tuple_add PySem.F.slot_tuple_add PySem.F.entry_tuple_add (PySem.F.args_tuple_add_2 _ _)
      (tuple_addW0 a b ([] : List Value).toArray jts.toArray n n2 dd dd2 sl sl2 rfl) ⟨ho, ho2, ⟨.ref b, H, I, rfl, q b H (Same.refl H) hb⟩⟩
  · refine HT.cat_tup t1 t2 hx (fun e => ?_) (fun e => ?_) (by omega)
    · subst e
      have ey : ys = [] := List.length_eq_zero_iff.mp l2
      subst ey
      exact ⟨.ref a, H, I, rfl, q a H (Same.refl H) (by rw [List.append_nil]; exact ha)⟩
    · have fr := I.hok.fresh (Nat.le_refl s.heap.objs.size)
      refine ⟨.ref s.heap.objs.size, _, I.laid (t' := s.toks) (o := .tup (xs ++ ys)) (fun b ob q => Heap.get?_push_of_some _ q) (Nat.le_refl _) ?_, rfl, q _ _ (same_new fr _) upd_same⟩
      exact ⟨by rw [List.length_append]; exact hz, _, r1.append r2, IsTup.new _ _⟩

/-! ### t[lo:hi], the whole too -/
end

section
variable {prog : Program} {w : World} {A : Around} {E : Value → Shared → Prop} {s : Shared}
end

section
variable {X : Cx}
end
end L2
end
section
/-! zip(a, b) of two lists or two tuples, walked by a loop or a comprehension with a pair as its target.
The built-ins' own code is walked by `wp_walk`; what is said here is what the heap holds behind it. -/
namespace L2
open PySem PySem.Spec PyProof.Rows
set_option maxHeartbeats 4000000
set_option maxRecDepth 100000
set_option Elab.async false
set_option linter.unusedVariables false

/-- an iterator that zip asks, and what it stands upon -/
structure Nx (P : Program) (w : World) (i l : Addr) (pl : Nat → Heap → Prop) (vs : Array Value) : Prop where
  ne : l ≠ i
  there : ∀ k h, pl k h → (∃ o, h.get? i = some o ∧ (∃ c, o.cls = .type c ∧ (c = "list_iterator" ∨ c = "tuple_iterator")) ∧ ∃ f, o.data = .fields f) ∧ ∃ o, h.get? l = some o ∧ (o.cls = .type "list" ∨ o.cls = .type "tuple")
  keep : ∀ k h h', pl k h → (∀ o, h.get? i = some o → h'.get? i = some o) → (∀ o, h.get? l = some o → h'.get? l = some o) → pl k h'
  item : ∀ (A : Around) k (s : Shared) (Q : Value → Shared → Prop) (E : Value → Shared → Prop) x, pl k s.heap → vs[k]? = some x → (∀ h', pl (k + 1) h' → Heap.SameBut i s.heap h' → Q x { s with heap := h' }) →
    wpAny (model P w) A (Builtin.SmallTypes.nextOf (.ref i)) Q E s
  done : ∀ (A : Around) k (s : Shared) (Q : Value → Shared → Prop) (E : Value → Shared → Prop), A.handled = none → pl k s.heap → vs[k]? = none →
    (∀ h' e, Heap.ExtBut i s.heap h' → (∃ o, h'.get? e = some o ∧ o.cls = .type "StopIteration") → E (.ref e) { s with heap := h' }) → wpAny (model P w) A (Builtin.SmallTypes.nextOf (.ref i)) Q E s

theorem nx_list {P : Program} {w : World} {i l : Addr} (vs : Array Value) (hne : l ≠ i) : Nx P w i l (fun k h => h.IsListIter i l k ∧ h.IsList l vs) vs where
  ne := hne
  there := fun k h ⟨⟨o, e, c, d⟩, ⟨o', e', c', _⟩⟩ => ⟨⟨o, e, ⟨_, c, .inl rfl⟩, _, d⟩, o', e', .inl c'⟩
  keep := fun k h h' ⟨a, b⟩ e1 e2 => ⟨a.at e1, b.at e2⟩
  item := fun A k s Q E x ⟨a, b⟩ hx q => wpAny_nextOf_list_item a b hx fun h' a' sb => q h' ⟨a', b.extBut sb.extBut hne⟩ sb
  done := fun A k s Q E hh ⟨a, b⟩ hx q => wpAny_nextOf_list_end hh a b hx q

/-! ### a tuple's iterator -/
/-- one more item: the code walked -/
theorem tn_item (it t : Addr) (i : Nat) (dc : Option Addr) (sl : Array (Option Value)) (items : Array Value) (x : Value) (hx : items[i]? = some x) :
    Meets (Builtin.«tuple_iterator.__next__» ⟨[.ref it], []⟩) (fun _ R s => s.heap.get? it = some ⟨.type "tuple_iterator", dc, .fields #[.ref t, .int i 0], sl⟩ ∧ s.heap.IsTuple t items ∧
      ∀ h', h'.IsTupleIter it t (i + 1) → Heap.SameBut it s.heap h' → R (.ok (.ret x)) { s with heap := h' }) :=
  .of_wp fun prog w A R s h => by
    obtain ⟨hp, g, d, tk, os⟩ := s
    obtain ⟨h1, ⟨⟨c, dc2, dt, sl2⟩, h2, hc, n, hd⟩, h⟩ := h
    simp only at hc hd
    subst hc hd
    simp only at h1 h2
    wp_walk
    rw [Int.toNat_natCast, hx]
    wp_walk
    exact ⟨_, rfl, h _ ⟨_, Heap.get?_update_self _ h1 rfl, rfl, rfl⟩ (.update ..)⟩
/-- no more items -/
theorem tn_end (it t : Addr) (i : Nat) (dc : Option Addr) (sl : Array (Option Value)) (items : Array Value) (hx : items[i]? = none) :
    Meets (Builtin.«tuple_iterator.__next__» ⟨[.ref it], []⟩) (fun A R s => A.handled = none ∧ s.heap.get? it = some ⟨.type "tuple_iterator", dc, .fields #[.ref t, .int i 0], sl⟩ ∧ s.heap.IsTuple t items ∧
      ∀ h' e, Heap.ExtBut it s.heap h' → (∃ o, h'.get? e = some o ∧ o.cls = .type "StopIteration") → R (.error (.ref e)) { s with heap := h' }) :=
  .of_wp fun prog w A R s h => by
    obtain ⟨hp, g, d, tk, os⟩ := s
    obtain ⟨hh, h1, ⟨⟨c, dc2, dt, sl2⟩, h2, hc, n, hd⟩, h⟩ := h
    simp only at hc hd
    subst hc hd
    simp only at h1 h2
    wp_walk
    rw [Int.toNat_natCast, hx]
    wp_walk
    exact wpAny_raiseNew_none hh (h _ _ (fun b o n e => by repeat (first | exact Heap.get?_update_of_ne _ (Ne.symm n) e | refine Heap.get?_push_of_some _ ?_)) ⟨_, Heap.get?_push_size _ rfl, rfl⟩)
theorem nx_tup {P : Program} {w : World} {i l : Addr} (vs : Array Value) (hne : l ≠ i) : Nx P w i l (fun k h => h.IsTupleIter i l k ∧ h.IsTuple l vs) vs where
  ne := hne
  there := fun k h ⟨⟨o, e, c, d⟩, ⟨o', e', c', _⟩⟩ => ⟨⟨o, e, ⟨_, c, .inr rfl⟩, _, d⟩, o', e', .inr c'⟩
  keep := fun k h h' ⟨a, b⟩ e1 e2 => ⟨a.at e1, b.at e2⟩
  item := fun A k s Q E x ⟨a, b⟩ hx q => by
    obtain ⟨⟨c, dc, dt, sl⟩, e, hc, hd⟩ := a
    simp only at hc hd
    subst hc hd
    have hT : s.TypeIs (.ref i) "tuple_iterator" := ⟨_, e, rfl⟩
    exact wpAny_bind (wpAny_callSpecial?_slot (name := Str.ofString "__next__") hT F.slot_tuple_iterator_next (call_meets F.slot_tuple_iterator_next hT F.entry_tuple_iterator_next (F.args_tuple_iterator_next_1 _)
      (tn_item i l k dc sl vs x hx) ⟨e, b, fun h' a' sb => wpAny_pure (q h' ⟨a', b.extBut sb.extBut hne⟩ sb)⟩))
  done := fun A k s Q E hh ⟨a, b⟩ hx q => by
    obtain ⟨⟨c, dc, dt, sl⟩, e, hc, hd⟩ := a
    simp only at hc hd
    subst hc hd
    have hT : s.TypeIs (.ref i) "tuple_iterator" := ⟨_, e, rfl⟩
    exact wpAny_bind (wpAny_callSpecial?_slot (name := Str.ofString "__next__") hT F.slot_tuple_iterator_next (call_meets F.slot_tuple_iterator_next hT F.entry_tuple_iterator_next (F.args_tuple_iterator_next_1 _)
      (tn_end i l k dc sl vs hx) ⟨hh, e, b, q⟩))

/-! ### a turn of zip -/
section
variable {P : Program} {w : World} {A : Around} {E : Value → Shared → Prop} {s : Shared} {z TI TO i j l m : Addr} {p1 p2 : Nat → Heap → Prop} {xs ys : Array Value} {k : Nat}
theorem zip_item {x y a b : Value} {Q : Option Value → Shared → Prop} (nd : [z, TI, TO, i, j].Nodup) (c1 : l ∉ [z, TI, TO, i, j]) (c2 : m ∉ [z, TI, TO, i, j]) (N1 : Nx P w i l p1 xs) (N2 : Nx P w j m p2 ys)
    (hz : IsZip s.heap z TI TO .none) (hTI : IsPair s.heap TI (.ref i) (.ref j)) (hTO : IsPair s.heap TO a b) (q1 : p1 k s.heap) (q2 : p2 k s.heap) (hx : xs[k]? = some x) (hy : ys[k]? = some y)
    (hQ : ∀ h', IsZip h' z TI TO (rawInt s.heap.objs.size) → IsPair h' TO x y → p1 (k + 1) h' → p2 (k + 1) h' → IsPair h' s.heap.objs.size x y → h'.objs.size = s.heap.objs.size + 1 →
      (∀ c o, c ≠ z → c ≠ TO → c ≠ i → c ≠ j → s.heap.get? c = some o → h'.get? c = some o) → Q (some (.ref s.heap.objs.size)) { s with heap := h' }) :
    wpAny (model P w) A (pyNext (.ref z)) Q E s := by
  simp only [List.nodup_cons, List.mem_cons, List.not_mem_nil, or_false, not_or, not_false_eq_true, and_true, List.nodup_nil] at nd c1 c2
  have hT : s.TypeIs (.ref z) "zip" := ⟨_, hz, rfl⟩
  unfold pyNext
  refine wpAny_bind (wpAny_attempt (wpAny_callSpecial?_slot (name := Str.ofString "__next__") hT F.slot_zip_next (wpAny_call_entry F.slot_zip_next hT F.entry_zip_next ?_ (F.args_zip_next_1 _))))
  obtain ⟨hp, g, d, tk, os⟩ := s
  wp_walk using wpAny_onRaise, N1.item _ k _ _ _ x
  · exact N1.keep _ _ _ q1 (fun o e => Heap.get?_update_of_ne _ nd.1.2.2.1 e) fun o e => Heap.get?_update_of_ne _ (Ne.symm c1.1) e
  · exact hx
  intro g2 r2 s2
  have t2 : IsPair g2 TO a b := s2.extBut _ _ nd.2.2.1.1 (Heap.get?_update_of_ne _ nd.1.2.1 hTO)
  wp_walk using wpAny_onRaise, N2.item _ k _ _ _ y
  · exact N2.keep _ _ _ q2 (fun o e => Heap.get?_update_of_ne _ nd.2.2.1.2 (s2.extBut _ _ (Ne.symm nd.2.2.2) (Heap.get?_update_of_ne _ nd.1.2.2.2 e)))
      fun o e => Heap.get?_update_of_ne _ (Ne.symm c2.2.2.1) (s2.extBut _ _ c2.2.2.2.1 (Heap.get?_update_of_ne _ (Ne.symm c2.1) e))
  · exact hy
  intro g4 r4 s4
  have t4 := s4.extBut _ _ nd.2.2.1.2 (Heap.get?_update_self (Obj.mapSeq fun q => q.setIfInBounds 0 x) t2 rfl)
  have nz : TO ≠ z := Ne.symm nd.1.2.1
  have z4 := s4.extBut _ _ nd.1.2.2.2 (Heap.get?_update_of_ne (Obj.mapSeq fun q => q.setIfInBounds 0 x) nz (s2.extBut _ _ nd.1.2.2.1 (Heap.get?_update_self (Obj.mapFields fun q => q.setIfInBounds 0 Value.ellipsis) hz rfl)))
  wp_walk
  refine ⟨_, rfl, wpAny_pure ?_⟩
  have sz : (g4.update TO (Obj.mapSeq fun q => q.setIfInBounds (0 + 1) y)).objs.size = hp.objs.size := by
    rw [Heap.size_after_update, s4.1]
    show (g2.update TO _).objs.size = _
    rw [Heap.size_after_update, s2.1]
    exact Heap.size_after_update ..
  rw [sz]
  have zl : z < hp.objs.size := Heap.lt_size hz
  have last : ∀ {G : Heap} {c : Addr} {o : Obj} {f1 f2 : Obj → Obj}, c ≠ z → G.get? c = some o → ((G.update z f1).update z f2).get? c = some o := fun n e => Heap.get?_update_of_ne _ (Ne.symm n) (Heap.get?_update_of_ne _ (Ne.symm n) e)
  have mid : ∀ {c : Addr} {o : Obj} {T : Obj}, c ≠ TO → g4.get? c = some o → ((g4.update TO (Obj.mapSeq fun q => q.setIfInBounds (0 + 1) y)).push T).get? c = some o := fun n e => Heap.get?_push_of_some _ (Heap.get?_update_of_ne _ (Ne.symm n) e)
  refine hQ _ (Heap.get?_update_self _ (Heap.get?_update_self _ (mid (Ne.symm nz) z4) rfl) rfl) (last nz (Heap.get?_push_of_some _ (Heap.get?_update_self _ t4 rfl)))
    (N1.keep _ _ _ r2 (fun o e => last (Ne.symm nd.1.2.2.1) (mid (Ne.symm nd.2.2.1.1) (s4.extBut _ _ nd.2.2.2 (Heap.get?_update_of_ne _ nd.2.2.1.1 e))))
      fun o e => last c1.1 (mid c1.2.2.1 (s4.extBut _ _ c1.2.2.2.2 (Heap.get?_update_of_ne _ (Ne.symm c1.2.2.1) e))))
    (N2.keep _ _ _ r4 (fun o e => last (Ne.symm nd.1.2.2.2) (mid (Ne.symm nd.2.2.1.2) e)) fun o e => last c2.1 (mid c2.2.2.1 e))
    (last (Nat.ne_of_gt zl) (Heap.get?_push_at sz.symm rfl)) ?_ fun c o n1 n2 n3 n4 e => last n1 (mid n2 (s4.extBut _ _ n4 (Heap.get?_update_of_ne _ (Ne.symm n2) (s2.extBut _ _ n3 (Heap.get?_update_of_ne _ (Ne.symm n1) e)))))
  rw [Heap.size_after_update, Heap.size_after_update, Heap.size_push, sz]
theorem zip_done {a b : Value} {Q : Option Value → Shared → Prop} (hh : A.handled = none) (nd : [z, TI, TO, i, j].Nodup) (c1 : l ∉ [z, TI, TO, i, j]) (c2 : m ∉ [z, TI, TO, i, j]) (N1 : Nx P w i l p1 xs) (N2 : Nx P w j m p2 ys)
    (hz : IsZip s.heap z TI TO .none) (hTI : IsPair s.heap TI (.ref i) (.ref j)) (hTO : IsPair s.heap TO a b) (q1 : p1 k s.heap) (q2 : p2 k s.heap) (hend : xs[k]? = none ∨ ys[k]? = none)
    (hQ : ∀ h', (∀ c o, c ≠ z → c ≠ TO → c ≠ i → c ≠ j → s.heap.get? c = some o → h'.get? c = some o) → Q none { s with heap := h' }) : wpAny (model P w) A (pyNext (.ref z)) Q E s := by
  simp only [List.nodup_cons, List.mem_cons, List.not_mem_nil, or_false, not_or, not_false_eq_true, and_true, List.nodup_nil] at nd c1 c2
  have hT : s.TypeIs (.ref z) "zip" := ⟨_, hz, rfl⟩
  have stop : ∀ (G : Heap) (e : Addr) (o : Obj), G.get? z = some ⟨.type "zip", none, .fields #[.ellipsis, .bool false, .bool false, .ref TI, .ref TO], #[]⟩ → G.get? e = some o → o.cls = .type "StopIteration" →
      (∀ c o, c ≠ z → c ≠ TO → c ≠ i → c ≠ j → s.heap.get? c = some o → G.get? c = some o) →
      wpAny (model P w) A.in1 (setField (.ref z) 0 .none) (fun _ s'' => wpAny (model P w) A (do if (← isInstance (.ref e) (.type "StopIteration")) = true then pure none else throw (.ref e)) Q E s'') (fun e' s'' => wpAny (model P w) A (do if (← isInstance e' (.type "StopIteration")) = true then pure none else throw e') Q E s'') { s with heap := G } := fun G e o g1 g2 hc kp => by
    have ne : z ≠ e := fun q => by subst q; rw [g1] at g2; cases g2; exact absurd (show Value.type "zip" = Value.type "StopIteration" from hc) (by decide)
    have g3 := Heap.get?_update_of_ne (Obj.mapFields fun q => q.setIfInBounds 0 Value.none) ne g2
    obtain ⟨hp, gs, d, tk, os⟩ := s
    have ht : Shared.TypeIs ⟨G.update z (Obj.mapFields fun q => q.setIfInBounds 0 Value.none), gs, d, tk, os⟩ (.ref e) "StopIteration" := ⟨o, g3, hc⟩
    have sub := isSubtype_stop
    wp_walk
    exact hQ _ fun c o n1 n2 n3 n4 q => Heap.get?_update_of_ne _ (Ne.symm n1) (kp c o n1 n2 n3 n4 q)
  unfold pyNext
  refine wpAny_bind (wpAny_attempt (wpAny_callSpecial?_slot (name := Str.ofString "__next__") hT F.slot_zip_next (wpAny_call_entry F.slot_zip_next hT F.entry_zip_next ?_ (F.args_zip_next_1 _))))
  have z1 := Heap.get?_update_self (Obj.mapFields fun q => q.setIfInBounds 0 Value.ellipsis) hz rfl
  obtain ⟨hp, g, d, tk, os⟩ := s
  have f1 : p1 k (hp.update z (Obj.mapFields fun q => q.setIfInBounds 0 Value.ellipsis)) := N1.keep _ _ _ q1 (fun o e => Heap.get?_update_of_ne _ nd.1.2.2.1 e) fun o e => Heap.get?_update_of_ne _ (Ne.symm c1.1) e
  cases hx : xs[k]? with
  | none =>
    wp_walk using wpAny_onRaise, N1.done _ k
    · exact hh
    · exact f1
    · exact hx
    intro g2 e s2 he
    obtain ⟨o, ho, hc⟩ := he
    exact stop g2 e o (s2 _ _ nd.1.2.2.1 z1) ho hc fun c o n1 n2 n3 n4 q => s2 _ _ n3 (Heap.get?_update_of_ne _ (Ne.symm n1) q)
  | some x =>
    have hy : ys[k]? = none := hend.resolve_left (by rw [hx]; exact nofun)
    wp_walk using wpAny_onRaise, N1.item _ k _ _ _ x
    · exact f1
    · exact hx
    intro g2 r2 s2
    have t2 : IsPair g2 TO a b := s2.extBut _ _ nd.2.2.1.1 (Heap.get?_update_of_ne _ nd.1.2.1 hTO)
    wp_walk using wpAny_onRaise, N2.done _ k
    · exact hh
    · exact N2.keep _ _ _ q2 (fun o e => Heap.get?_update_of_ne _ nd.2.2.1.2 (s2.extBut _ _ (Ne.symm nd.2.2.2) (Heap.get?_update_of_ne _ nd.1.2.2.2 e)))
        fun o e => Heap.get?_update_of_ne _ (Ne.symm c2.2.2.1) (s2.extBut _ _ c2.2.2.2.1 (Heap.get?_update_of_ne _ (Ne.symm c2.1) e))
    · exact hy
    intro g4 e s4 he
    obtain ⟨o, ho, hc⟩ := he
    exact stop g4 e o (s4 _ _ nd.1.2.2.2 (Heap.get?_update_of_ne _ (Ne.symm nd.1.2.1) (s2.extBut _ _ nd.1.2.2.1 z1))) ho hc
      fun c o n1 n2 n3 n4 q => s4 _ _ n4 (Heap.get?_update_of_ne _ (Ne.symm n2) (s2.extBut _ _ n3 (Heap.get?_update_of_ne _ (Ne.symm n1) q)))
end
end L2
end
section
/-! zip walked; ranges as lists and tuples; the empty dict. -/
namespace L2
open PySem PySem.Spec PyProof.Rows
set_option maxHeartbeats 4000000
set_option maxRecDepth 100000
set_option Elab.async false
set_option linter.unusedVariables false

/-! ### ranges -/
section
variable {prog : Program} {w : World} {A : Around} {E : Value → Shared → Prop} {s : Shared} {r : Addr} {a b c : Int} {t u v : Tok} {n : Nat}
end
/-- the ints lo, lo + 1, .. (n of them) -/
def ups (lo : Int) (n : Nat) : List Int := (List.range n).map fun (k : Nat) => lo + (k : Int)
theorem ups_length (lo : Int) (n : Nat) : (ups lo n).length = n := by unfold ups; rw [List.length_map, List.length_range]
theorem vals_items {lo : Int} {n : Nat} {acc : Array Value} (h : ItemsOf (fun i v => ∃ t, v = Value.int (lo + i * 1) t) acc n) : Vals ((ups lo n).map V.int) acc.toList := by
  have : ∀ (us : List Value) (ns : List Int), us.length = ns.length → (∀ (j : Nat) (u : Value), us[j]? = some u → ∃ t, ∃ i, ns[j]? = some i ∧ u = Value.int i t) → Vals (ns.map V.int) us := by
    intro us
    induction us with
    | nil => intro ns hl _; cases ns with
      | nil => exact .nil
      | cons => cases hl
    | cons x r ih =>
      intro ns hl hh
      cases ns with
      | nil => cases hl
      | cons n ns =>
        obtain ⟨t, i, e1, e2⟩ := hh 0 x rfl
        have : n = i := by simpa using e1
        subst this
        exact .cons ⟨t, e2⟩ (ih ns (by simpa using hl) fun j u hj => hh (j + 1) u (by simpa using hj))
  refine this _ _ (by rw [ups_length, Array.length_toList]; exact h.1) fun j u hj => ?_
  have hj' : acc[j]? = some u := by simpa using hj
  obtain ⟨t, e⟩ := h.2 j u hj'
  have hjn : j < n := by rw [← h.1]; exact (Array.getElem?_eq_some_iff.mp hj').1
  refine ⟨t, lo + (j : Int), ?_, by rw [e, Int.mul_one]⟩
  unfold ups
  rw [List.getElem?_map, List.getElem?_range hjn]
  rfl
section
variable {X : Cx}
theorem call_rng2 : CallR X (.type "range") (fun xs H Q => ∃ i j : Int, xs = [.int i, .int j] ∧ ∀ p, H p = none → Q (.ref p) (upd H p (.rng i j))) := by
  intro pins s σ H xs us Q I r h
  obtain ⟨i, j, rfl, q⟩ := h
  obtain ⟨u, u', rfl, r1, r2⟩ := vals2 r
  obtain ⟨t, rfl⟩ := (show ∃ t, u = Value.int i t from r1)
  obtain ⟨t', rfl⟩ := (show ∃ t, u' = Value.int j t from r2)
  refine call_range_2 ⟨.ref s.heap.objs.size, _, I.laid (a := s.heap.objs.size) (o := .rng i j) (fun b ob q => Heap.get?_push_of_some _ q) (Nat.le_refl _) ⟨_, _, _, Heap.get?_push_size _ rfl⟩, rfl, q _ (I.hok.fresh (Nat.le_refl _))⟩
theorem call_list_rng (hc : X.calm = true) : CallR X (.type "list") (fun xs H Q => ∃ p i j, xs = [.ref p] ∧ H p = some (.rng i j) ∧ (-(2 ^ 62) ≤ i ∧ i < 2 ^ 62 ∧ -(2 ^ 62) ≤ j ∧ j < 2 ^ 62) ∧ (j - i).toNat ≤ sizeLine ∧
    ∀ l, H l = none → Q (.ref l) (upd H l (.lst ((ups i (j - i).toNat).map V.int)))) := by
  intro pins s σ H xs us Q I r h
  obtain ⟨p, i, j, rfl, hp, ⟨b1, b2, b3, b4⟩, hz, q⟩ := h
  obtain ⟨u, rfl, rx⟩ := vals1 r
  cases (show u = Value.ref p from rx)
  obtain ⟨t1, t2, t3, ho⟩ := (show ObjOk X.prog X.w H s.heap p (.rng i j) from I.hok p _ hp)
  refine call_list_range (I.ok.hd hc) ho (small_one b1 b2 b3 b4) (n := (j - i).toNat) (by rw [rangeSize_one]; split <;> omega) (by rw [sizeLine_eq] at hz; exact hz) fun h' tk acc c' hk hS hacc => ?_
  refine ⟨.ref s.heap.objs.size, _, I.laid (a := s.heap.objs.size) (t' := tk) (o := .lst ((ups i (j - i).toNat).map V.int)) hk (Nat.le_refl _) ?_, rfl, q _ (I.hok.fresh (Nat.le_refl _))⟩
  refine ⟨by rw [List.length_map, ups_length]; exact hz, acc.toList, c', vals_items hacc, ?_⟩
  have e : acc.toList.toArray = acc := by simp
  rw [e]
  exact hS

/-! ### {} -/
end
end L2
end
section
/-! zip(a, b) of two tuples or two lists, walked with a pair as target. -/
namespace L2
open PySem PySem.Spec PyProof.Rows
set_option maxHeartbeats 4000000
set_option maxRecDepth 100000
set_option Elab.async false
set_option linter.unusedVariables false

/-- kinds: true a tuple, false a list -/
def ItAt (t : Bool) (i l : Addr) (k : Nat) (h : Heap) : Prop := match t with
  | true => h.IsTupleIter i l k
  | false => h.IsListIter i l k
def SqK (t : Bool) (K : PySem.W.Frag) (H : Hp) (l : Addr) (xs : List V) : Prop := match t with
  | true => SqT K H l xs
  | false => SqL K H l xs
theorem ItAt.at {t : Bool} {i l : Addr} {k : Nat} {h h' : Heap} (x : ItAt t i l k h) (e : ∀ o, h.get? i = some o → h'.get? i = some o) : ItAt t i l k h' := by
  cases t
  · exact Heap.IsListIter.at x e
  · exact Heap.IsTupleIter.at x e
theorem ItAt.obj {t : Bool} {i l : Addr} {k : Nat} {h : Heap} (x : ItAt t i l k h) : ∃ o f c, h.get? i = some o ∧ o.data = .fields f ∧ o.cls = .type c ∧ (c = "list_iterator" ∨ c = "tuple_iterator") := by
  cases t
  · obtain ⟨o, e, c, d⟩ := (show h.IsListIter i l k from x)
    exact ⟨o, _, _, e, d, c, .inl rfl⟩
  · obtain ⟨o, e, c, d⟩ := (show h.IsTupleIter i l k from x)
    exact ⟨o, _, _, e, d, c, .inr rfl⟩
section
variable {X : Cx} {pins : List (Addr × Obj)} {σ : St} {H : Hp} {s : Shared}
theorem Inv.sqk {t : Bool} {l : Addr} {xs : List V} (I : Inv X pins σ H s) (h : SqK t X.K H l xs) : ∃ its : List Value, Vals xs its ∧ (∃ o, s.heap.get? l = some o ∧ (o.cls = .type "list" ∨ o.cls = .type "tuple")) ∧
    ∀ (i : Addr), l ≠ i → ∃ pl : Nat → Heap → Prop, Nx X.prog X.w i l pl its.toArray ∧ (∀ k, ItAt t i l k s.heap → pl k s.heap) ∧ (∀ k h', pl k h' → ItAt t i l k h') := by
  cases t
  · obtain ⟨its, r, p, hz⟩ := I.list (show SqL X.K H l xs from h)
    obtain ⟨o, ho, hc, n, hd⟩ := id p.isList
    exact ⟨its, r, ⟨o, ho, .inl hc⟩, fun i ne => ⟨_, nx_list its.toArray ne, fun k z => ⟨z, p.isList⟩, fun k h' z => z.1⟩⟩
  · obtain ⟨its, r, p, hz⟩ := I.tuple (show SqT X.K H l xs from h)
    obtain ⟨o, ho, hc, n, hd⟩ := id p
    exact ⟨its, r, ⟨o, ho, .inr hc⟩, fun i ne => ⟨_, nx_tup its.toArray ne, fun k z => ⟨z, p⟩, fun k h' z => z.1⟩⟩
theorem Inv.sqk_inj {t : Bool} {l : Addr} {xs ys : List V} (I : Inv X pins σ H s) (h : SqK t X.K H l xs) (h' : SqK t X.K H l ys) : xs = ys := by
  cases t
  · exact I.list_inj h h'
  · exact I.tuple_inj h h'
end

/-- the pairs of two sequences -/
def Itz (t : Bool) (K : PySem.W.Frag) (l m : Addr) : It where
  go := fun i H => ∃ xs ys x y, SqK t K H l xs ∧ SqK t K H m ys ∧ xs[i]? = some x ∧ ys[i]? = some y
  yld := fun i H v H' => ∃ p x y, v = .ref p ∧ H p = none ∧ H' = upd H p (.tup [x, y]) ∧ (∀ xs, SqK t K H l xs → xs[i]? = some x) ∧ ∀ ys, SqK t K H m ys → ys[i]? = some y
  stop := fun i H => ∃ xs ys, SqK t K H l xs ∧ SqK t K H m ys ∧ (xs[i]? = none ∨ ys[i]? = none)

theorem turn_zip {P : Program} {w : World} {K : PySem.W.Frag} {es : List Expr} {k0 : Nat} {pos : Pos} {t : Bool} {z TI TO i j l m : Addr} (a1 : TI ≠ z) (a2 : TO ≠ z) (a3 : i ≠ z) (a4 : j ≠ z) (a5 : TI ≠ TO) (a6 : TI ≠ i) (a7 : TI ≠ j) (a8 : TO ≠ i) (a9 : TO ≠ j) (b1 : i ≠ j)
    (c1 : l ∉ [z, TI, TO, i, j]) (c2 : m ∉ [z, TI, TO, i, j]) :
    Turn P w K (.Tuple es k0 pos) (Itz t K l m) [z, TI, TO, i, j] z (fun k h => IsZip h z TI TO .none ∧ IsPair h TI (.ref i) (.ref j) ∧ (∃ a b, IsPair h TO a b) ∧ ItAt t i l k h ∧ ItAt t j m k h) where
  mem := by simp
  obj := fun k h ⟨hz, h1, ⟨a, b, h2⟩, h3, h4⟩ c hc => by
    obtain ⟨o1, f1, _, e1, d1, _⟩ := h3.obj
    obtain ⟨o2, f2, _, e2, d2, _⟩ := h4.obj
    simp only [List.mem_cons, List.not_mem_nil, or_false] at hc
    rcases hc with rfl | rfl | rfl | rfl | rfl
    · exact ⟨_, hz, fun v q => by cases q⟩
    · exact ⟨_, h1, fun v q => by cases q⟩
    · exact ⟨_, h2, fun v q => by cases q⟩
    · exact ⟨_, e1, fun v q => by rw [d1] at q; cases q⟩
    · exact ⟨_, e2, fun v q => by rw [d2] at q; cases q⟩
  keep := fun k h h' ⟨hz, h1, ⟨a, b, h2⟩, h3, h4⟩ kp => ⟨kp z (by simp) _ hz, kp TI (by simp) _ h1, ⟨a, b, kp TO (by simp) _ h2⟩, h3.at fun o e => kp i (by simp) o e, h4.at fun o e => kp j (by simp) o e⟩
  item := by
    intro X hP hw hK hc k pins s σ H E I hf st hg
    subst hP hw hK
    obtain ⟨xs, ys, x, y, hl, hm, hx, hy⟩ := hg
    obtain ⟨hz, h1, ⟨a, b, h2⟩, h3, h4⟩ := st
    have cl := c1
    have cm := c2
    simp only [List.mem_cons, List.not_mem_nil, or_false, not_or] at c1 c2
    obtain ⟨its, r1, _, n1⟩ := I.sqk hl
    obtain ⟨jts, r2, _, n2⟩ := I.sqk hm
    obtain ⟨p1, N1, u1, v1⟩ := n1 i c1.2.2.2.1
    obtain ⟨p2, N2, u2, v2⟩ := n2 j c2.2.2.2.2
    obtain ⟨u, hu, ru⟩ := r1.get hx
    obtain ⟨u', hu', ru'⟩ := r2.get hy
    have D : [z, TI, TO, i, j].Nodup := by simp [a1, a2, a3, a4, a5, a6, a7, a8, a9, b1, Ne.symm a1, Ne.symm a2, Ne.symm a3, Ne.symm a4]
    refine zip_item D cl cm N1 N2 hz h1 h2 (u1 k h3) (u2 k h4) (x := u) (y := u') (by simpa using hu) (by simpa using hu') fun h' z1 z2 z3 z4 z5 z6 kp => ?_
    refine ⟨_, rfl, wpAny_letOwnedTupleGo_zip z1 fun h'' y1 sb => ?_⟩
    have fz : H s.heap.objs.size = none := I.hok.fresh (Nat.le_refl _)
    have zlt : z < s.heap.objs.size := Heap.lt_size hz
    have mine : ∀ c ∈ [z, TI, TO, i, j], c ≠ s.heap.objs.size := fun c hc' => by
      obtain ⟨o1, f1, _, e1, d1, _⟩ := h3.obj
      obtain ⟨o2, f2, _, e2, d2, _⟩ := h4.obj
      simp only [List.mem_cons, List.not_mem_nil, or_false] at hc'
      rcases hc' with rfl | rfl | rfl | rfl | rfl
      · exact Nat.ne_of_lt (Heap.lt_size hz)
      · exact Nat.ne_of_lt (Heap.lt_size h1)
      · exact Nat.ne_of_lt (Heap.lt_size h2)
      · exact Nat.ne_of_lt (Heap.lt_size e1)
      · exact Nat.ne_of_lt (Heap.lt_size e2)
    have kp2 : ∀ c o, c ∉ [z, TI, TO, i, j] → s.heap.get? c = some o → h''.get? c = some o := fun c o hc' e => by
      simp only [List.mem_cons, List.not_mem_nil, or_false, not_or] at hc'
      exact sb.extBut _ _ hc'.1 (kp c o hc'.1 hc'.2.2.1 hc'.2.2.2.1 hc'.2.2.2.2 e)
    have tp : h''.get? s.heap.objs.size = some { cls := .type "tuple", data := .seq #[u, u'] } := sb.extBut _ _ (mine z (by simp)).symm z5
    have notH : ∀ c ∈ [z, TI, TO, i, j], H c = none := fun c hc' => (hf c hc').1
    have I1 : Inv X pins σ (upd H s.heap.objs.size (.tup [x, y])) { s with heap := h'' } := by
      have un : Un X.fs [z, TI, TO, i, j] H (upd H s.heap.objs.size (.tup [x, y])) s.heap h'' :=
        ⟨fun c o e n nf hx => kp2 c o hx e, fun c o e n nf hx => ⟨o.slots, kp2 c o hx e⟩, fun c o e n hx => by rw [upd_ne (Nat.ne_of_lt (Heap.lt_size e))]; exact n,
          fun c o e hx => ⟨o, kp2 c o hx e⟩, fun c xs e => by rw [upd_ne (ne_of_none e fz)]; exact e, fun c o xs e => by rw [upd_ne (ne_of_none e fz)]; exact e, fun c ps e => ⟨#[], by rw [upd_ne (ne_of_none e fz), e]; simp⟩⟩
      have hok : HOk X.prog X.w (upd H s.heap.objs.size (.tup [x, y])) h'' := fun c o e => by
        by_cases hcs : c = s.heap.objs.size
        · subst hcs
          rw [upd_same] at e
          cases e
          exact ⟨by show 2 ≤ sizeLine; decide, [u, u'], .cons ru (.cons ru' .nil), ⟨_, tp, rfl, _, rfl⟩⟩
        · rw [upd_ne hcs] at e
          refine (I.hok c o e).stay (fun d w' hd q => kp2 d w' (fun zz => ?_) q) (fun d q => ?_) fun d w' q => ?_
          · have hn := notH d zz
            rcases hd with rfl | hd
            · rw [hn] at e; cases e
            · rw [hn] at hd; cases hd
          · rw [upd_ne (ne_of_none q fz)]; exact q
          · rw [upd_ne (ne_of_none q fz)]; exact q
      have hch : ∀ b ∈ [z, TI, TO, i, j], (b ∈ X.ex ∨ X.s₀.heap.objs.size ≤ b) ∧ b ≠ X.env.locals ∧ (∀ x c, X.env.cells.lookup x = some c → c ≠ b) ∧ ∀ p ∈ X.pn ++ pins, p.1 ≠ b := fun b hb => ⟨(hf b hb).2.2.2.1, (hf b hb).2.1, (hf b hb).2.2.2.2.1, (hf b hb).2.2.2.2.2⟩
      refine I.step (g' := s.gens) (d' := s.drawn) (t' := s.toks) (ch := [z, TI, TO, i, j]) hch (fun c o _ _ hc' e _ => kp2 c o hc' e) (fun c o _ _ hc' e _ => ⟨o.slots, kp2 c o hc' e⟩) (fun c o hc' e n => un.free c o e n hc') (fun c o hc' e => un.there c o e hc') un.tups un.frzs un.tbls (fun m' hm' => ?_) hok I.bare
      obtain ⟨o, es', ep, ho, r⟩ := hm'
      exact ⟨o, es', ep, kp2 _ o (fun zz => (hf _ zz).2.1 rfl) ho, r⟩
    refine ⟨.ref s.heap.objs.size, _, I1, rfl, ⟨s.heap.objs.size, x, y, rfl, fz, rfl, fun xs' q => by rw [I.sqk_inj q hl]; exact hx, fun ys' q => by rw [I.sqk_inj q hm]; exact hy⟩, ?_, fun c hc' => ?_⟩
    · have up : ∀ c o, c ≠ z → h'.get? c = some o → h''.get? c = some o := fun c o hc' e => sb.extBut _ _ hc' e
      exact ⟨y1, up _ _ a1 (kp _ _ a1 a5 a6 a7 h1), ⟨_, _, up _ _ a2 z2⟩, (v1 _ _ z3).at fun o e => up _ o a3 e, (v2 _ _ z4).at fun o e => up _ o a4 e⟩
    · rw [upd_ne (mine c hc')]
      exact notH c hc'
  done := by
    intro X hP hw hK hc k pins s σ H E I hf st hg
    subst hP hw hK
    obtain ⟨xs, ys, hl, hm, hend⟩ := hg
    obtain ⟨hz, h1, ⟨a, b, h2⟩, h3, h4⟩ := st
    have cl := c1
    have cm := c2
    simp only [List.mem_cons, List.not_mem_nil, or_false, not_or] at c1 c2
    obtain ⟨its, r1, _, n1⟩ := I.sqk hl
    obtain ⟨jts, r2, _, n2⟩ := I.sqk hm
    obtain ⟨p1, N1, u1, v1⟩ := n1 i c1.2.2.2.1
    obtain ⟨p2, N2, u2, v2⟩ := n2 j c2.2.2.2.2
    have D : [z, TI, TO, i, j].Nodup := by simp [a1, a2, a3, a4, a5, a6, a7, a8, a9, b1, Ne.symm a1, Ne.symm a2, Ne.symm a3, Ne.symm a4]
    refine zip_done (I.ok.hd hc) D cl cm N1 N2 hz h1 h2 (u1 k h3) (u2 k h4) (hend.elim (fun q => .inl (by simpa using r1.none_of q)) fun q => .inr (by simpa using r2.none_of q)) fun h' kp => ⟨rfl, ?_⟩
    have kp2 : ∀ c o, c ∉ [z, TI, TO, i, j] → s.heap.get? c = some o → h'.get? c = some o := fun c o hc' e => by
      simp only [List.mem_cons, List.not_mem_nil, or_false, not_or] at hc'
      exact kp c o hc'.1 hc'.2.2.1 hc'.2.2.2.1 hc'.2.2.2.2 e
    have hch : ∀ b ∈ [z, TI, TO, i, j], (b ∈ X.ex ∨ X.s₀.heap.objs.size ≤ b) ∧ b ≠ X.env.locals ∧ (∀ x c, X.env.cells.lookup x = some c → c ≠ b) ∧ ∀ p ∈ X.pn ++ pins, p.1 ≠ b := fun b hb => ⟨(hf b hb).2.2.2.1, (hf b hb).2.1, (hf b hb).2.2.2.2.1, (hf b hb).2.2.2.2.2⟩
    refine I.step (g' := s.gens) (d' := s.drawn) (t' := s.toks) (ch := [z, TI, TO, i, j]) hch (fun c o _ _ hc' e _ => kp2 c o hc' e) (fun c o _ _ hc' e _ => ⟨o.slots, kp2 c o hc' e⟩) (fun _ _ _ _ n => n) (fun c o hc' e => ⟨o, kp2 c o hc' e⟩) (fun _ _ e => e) (fun _ _ _ e => e) (fun b ps e => ⟨#[], by rw [e]; simp⟩) (fun m' hm' => ?_) (fun c o e => ?_) I.bare
    · obtain ⟨o, es', ep, ho, r⟩ := hm'
      exact ⟨o, es', ep, kp2 _ o (fun zz => (hf _ zz).2.1 rfl) ho, r⟩
    · refine (I.hok c o e).stay (fun d w' hd q => kp2 d w' (fun zz => ?_) q) (fun _ q => q) fun _ _ q => q
      have hn := (hf d zz).1
      rcases hd with rfl | hd
      · rw [hn] at e; cases e
      · rw [hn] at hd; cases hd
  self := fun A k s Q E st h => wpAny_pyIter_zip st.1 h
end L2
end
section
/-! zip(a, b) made. -/
namespace L2
open PySem PySem.Spec PyProof.Rows
set_option maxHeartbeats 4000000
set_option maxRecDepth 100000
set_option Elab.async false
set_option linter.unusedVariables false
/-- zip.__new__ of two tuples, walked: two iterators, two pairs, the zip -/
theorem tz_new (l m : Addr) (xs ys : Array Value) : Meets (Builtin.«zip.__new__» ⟨[.type "zip", .ref l, .ref m], []⟩) (fun _ R s => s.heap.IsTuple l xs ∧ s.heap.IsTuple m ys ∧
      ∀ h' : Heap, IsZip h' (s.heap.objs.size + 4) (s.heap.objs.size + 2) (s.heap.objs.size + 3) .none → IsPair h' (s.heap.objs.size + 2) (.ref s.heap.objs.size) (.ref (s.heap.objs.size + 1)) →
        IsPair h' (s.heap.objs.size + 3) .none .none → h'.IsTupleIter s.heap.objs.size l 0 → h'.IsTupleIter (s.heap.objs.size + 1) m 0 → (∀ c o, s.heap.get? c = some o → h'.get? c = some o) →
        R (.ok (.ret (.ref (s.heap.objs.size + 4)))) { s with heap := h' }) :=
  .of_wp fun prog w A R s h => by
    obtain ⟨hp, g, d, tk, os⟩ := s
    obtain ⟨h1, h2, h⟩ := h
    have hsub := sub_zip
    wp_walk using wpAny_pyIter_tuple h1, wpAny_pyIter_tuple (Heap.IsTuple.push h2 _)
    simp only [Heap.size_push]
    refine ⟨_, rfl, h _ (Heap.get?_push_at (by simp only [Heap.size_push]) rfl) ?_ ?_ ?_ ?_ fun c o x => ?_⟩
    · exact Heap.get?_push_of_some _ (Heap.get?_push_of_some _ (Heap.get?_push_at (by simp only [Heap.size_push]) rfl))
    · exact Heap.get?_push_of_some _ (Heap.get?_push_at (by simp only [Heap.size_push]) rfl)
    · exact ⟨_, Heap.get?_push_of_some _ (Heap.get?_push_of_some _ (Heap.get?_push_of_some _ (Heap.get?_push_of_some _ (Heap.get?_push_size _ rfl)))), rfl, rfl⟩
    · exact ⟨_, Heap.get?_push_of_some _ (Heap.get?_push_of_some _ (Heap.get?_push_of_some _ (Heap.get?_push_at (by simp only [Heap.size_push]) rfl))), rfl, rfl⟩
    repeat (first | exact x | refine Heap.get?_push_of_some _ ?_)
section
variable {prog : Program} {w : World} {A : Around} {E : Value → Shared → Prop} {s : Shared}
theorem zip_tups {l m : Addr} {xs ys : Array Value} {Q : Value → Shared → Prop} (h1 : s.heap.IsTuple l xs) (h2 : s.heap.IsTuple m ys)
    (h : ∀ h', IsZip h' (s.heap.objs.size + 4) (s.heap.objs.size + 2) (s.heap.objs.size + 3) .none → IsPair h' (s.heap.objs.size + 2) (.ref s.heap.objs.size) (.ref (s.heap.objs.size + 1)) →
      IsPair h' (s.heap.objs.size + 3) .none .none → h'.IsTupleIter s.heap.objs.size l 0 → h'.IsTupleIter (s.heap.objs.size + 1) m 0 →
      (∀ c o, s.heap.get? c = some o → h'.get? c = some o) → Q (.ref (s.heap.objs.size + 4)) { s with heap := h' }) :
    wpAny (model prog w) A (call (.type "zip") [.ref l, .ref m]) Q E s :=
  callType_new F.called_zip (by decide) (F.typeCall_zip_2 _ _) (F.newCall_zip_2 _ _) (fun obj => F.args_object_init_3 obj _ _) F.entry_zip_new (tz_new l m xs ys)
    ⟨h1, h2, fun h' z p1 p2 i1 i2 kp => ⟨⟨_, z, rfl⟩, h h' z p1 p2 i1 i2 kp⟩⟩
end
theorem apart_nat (n : Nat) {a b : Nat} (h : a ≠ b) : n + a ≠ n + b := fun z => h (Nat.add_left_cancel z)
theorem not_fresh5 {n c : Nat} (h : c < n) (z : c = n + 4 ∨ c = n + 2 ∨ c = n + 3 ∨ c = n ∨ c = n + 1) : False := by omega
theorem fresh5 {n c : Nat} (z : c = n + 4 ∨ c = n + 2 ∨ c = n + 3 ∨ c = n ∨ c = n + 1) : n ≤ c := by omega
section
variable {X : Cx}
end
end L2
end
section
/-! SHORT WORDS for a whole text: own defs by name, built-ins by name. -/
namespace L2
open PySem PySem.Spec PyProof.Rows
set_option maxHeartbeats 4000000
set_option Elab.async false
set_option linter.unusedVariables false
/-- the def x keeps sp with k calls left -/
def Has (P : Program) (w : World) (K : PySem.W.Frag) (mg : Str → Option Value) (base : Heap) (k : Nat) (x : Str) (ps : List Str) (sp : Sp) : Prop :=
  ∃ (f : Addr) (fd : FuncData), FnOk P w K mg base CX0 k f fd ps sp ∧ mg x = some (.ref f) ∧ PySem.W.keepIn K (.ref f) = true ∧ Binds K fd ps []
section
variable {X : Cx} {k k' : Nat} {x : Str} {ps : List Str} {sp : Sp} {e : Expr} {es : List Expr} {t : TA} {p pos : Pos}
theorem pe_def (h : Has X.prog X.w X.K X.mg X.base k x ps sp) (hr : Room k' X.A) (ha : PA X (e :: es) t) (hg : Gl X x := by rfl) (hk : k ≤ k' := by decide) (hdb : (x == ("__debug__" : Str)) = false := by decide)
    (he : starEach (e :: es) X.env = (false, eval e X.env) :: starEach es X.env := by rfl) (hpl : (backTo pos (starEach es X.env)).any (·.1) = false := by rfl) : PE X (.Call (.Name x p) (e :: es) [] pos) (tCall sp [] E0 t) := by
  obtain ⟨f, fd, F, m, kp, b⟩ := h
  exact pe_call F (hr.mono hk) hg m kp b .nil pass0 ha hdb he hpl
/-- a constant of the module -/
theorem pe_const {v : V} (h : ∃ u, X.mg x = some u ∧ RelV v u) (hg : Gl X x := by rfl) (hd : (x == ("__debug__" : Str)) = false := by decide) : PE X (.Name x pos) (tC v) := by
  obtain ⟨u, m, r⟩ := h
  exact pe_glob hg m r hd
/-- a built-in type as a value -/
theorem pe_ty {T : String} (hm : X.mg x = none) (hv : bootBuiltins x = some (.type T)) (hg : Gl X x := by rfl) (hn : x ≠ "__name__" := by decide) (hd : (x == ("__debug__" : Str)) = false := by decide) : PE X (.Name x pos) (tC (.ty T)) := pe_bltn hg hm hv rfl hn hd
end
/-- the built-ins that a text uses are no names of its own -/
structure Nb (mg : Str → Option Value) : Prop where
  len : mg "len" = none
  isi : mg "isinstance" = none
  bool : mg "bool" = none
  int : mg "int" = none
  tuple : mg "tuple" = none
  list : mg "list" = none
  range : mg "range" = none
  zip : mg "zip" = none
  all : mg "all" = none
  max : mg "max" = none
  min : mg "min" = none
end L2
end
section
/-! A comprehension without tests whose elements only add to the heap. -/
namespace L2
open PySem PySem.Spec PyProof.Rows
set_option maxHeartbeats 4000000
set_option Elab.async false
set_option linter.unusedVariables false
theorem Same.upd_free {H1 H5 : Hp} {D : Addr} (s : Same H1 H5) (hD : H1 D = none) (o : HO) : Same H1 (upd H5 D o) := fun b u q => by rw [upd_ne (ne_of_none q hD)]; exact s b u q
theorem comp_go {J : It} {g : TG} {te : TE} {Q : VK} {D : Addr} {H1 : Hp} {σ0 : St} (n : Nat) (hn : n ≤ sizeLine) (f : Nat → V) (Sg : St → Prop) (itm : Nat → Hp → V → Prop) (hD : H1 D = none) (s0 : Sg σ0)
    (items : ∀ i H, Same H1 H → (i < n → J.go i H ∧ ∀ x H2, J.yld i H x H2 → Same H H2 ∧ itm i H2 x) ∧ (n ≤ i → J.stop i H))
    (step : ∀ i x σ' H, i < n → Same H1 H → itm i H x → Sg σ' → ∀ R : St → V → Hp → Prop, (∀ σ3 y H5, Sg σ3 → Same H H5 → y = f i → R σ3 y H5) → g x σ' H fun σ3 H3 => te σ3 H3 (R σ3))
    (fin : ∀ H', Same H1 H' → H' D = some (.lst ((List.range n).map f)) → Q (.ref D) H') :
    cmpW J g tYes te Q D σ0 H1 := by
  refine ⟨fun i m σ H => m = n - i ∧ i ≤ n ∧ Sg σ ∧ Same H1 H ∧ H D = some (.lst ((List.range i).map f)), ⟨n, by omega, Nat.zero_le _, s0, (Same.refl H1).upd_free hD _, upd_same⟩, ?_⟩
  rintro i m σ H ⟨rfl, hi, hs, sm, hd⟩
  by_cases hlt : i < n
  · obtain ⟨go, yl⟩ := (items i H sm).1 hlt
    refine .inr ⟨go, fun x H2 y => ?_⟩
    obtain ⟨s2, im⟩ := yl x H2 y
    have e : (fun (σ3 : St) (H3 : Hp) => tYes σ3 H3 fun ok H4 =>
        if ok = true then te σ3 H4 fun y H5 => ∃ ys, H5 D = some (.lst ys) ∧ ys.length < sizeLine ∧ ∃ m', m' < n - i ∧ (m' = n - (i + 1) ∧ i + 1 ≤ n ∧ Sg σ3 ∧ Same H1 (upd H5 D (.lst (ys ++ [y]))) ∧ upd H5 D (.lst (ys ++ [y])) D = some (.lst ((List.range (i + 1)).map f)))
        else ∃ m', m' < n - i ∧ (m' = n - (i + 1) ∧ i + 1 ≤ n ∧ Sg σ3 ∧ Same H1 H4 ∧ H4 D = some (.lst ((List.range (i + 1)).map f)))) =
        fun σ3 H3 => te σ3 H3 fun y H5 => ∃ ys, H5 D = some (.lst ys) ∧ ys.length < sizeLine ∧ ∃ m', m' < n - i ∧ (m' = n - (i + 1) ∧ i + 1 ≤ n ∧ Sg σ3 ∧ Same H1 (upd H5 D (.lst (ys ++ [y]))) ∧ upd H5 D (.lst (ys ++ [y])) D = some (.lst ((List.range (i + 1)).map f))) := by
      funext σ3 H3
      unfold tYes
      dsimp only
      rw [if_pos rfl]
    rw [e]
    refine step i x σ H2 hlt (sm.trans s2) im hs _ fun σ3 y H5 g3 s5 ey => ?_
    refine ⟨_, s5 _ _ (s2 _ _ hd), by rw [List.length_map, List.length_range]; omega, n - (i + 1), by omega, rfl, by omega, g3, (sm.trans (s2.trans s5)).upd_free hD _, ?_⟩
    rw [upd_same, ey, List.range_succ, List.map_append]
    rfl
  · have e : i = n := by omega
    subst e
    exact .inl ⟨(items i H sm).2 (Nat.le_refl _), fin H sm hd⟩
/-- over a tracked tuple -/
theorem items_tup {K : PySem.W.Frag} {a : Addr} {xs : List V} {H1 : Hp} (h : H1 a = some (.tup xs)) (i : Nat) (H : Hp) (s : Same H1 H) :
    (i < xs.length → (Itt K a).go i H ∧ ∀ x H2, (Itt K a).yld i H x H2 → Same H H2 ∧ xs[i]? = some x) ∧ (xs.length ≤ i → (Itt K a).stop i H) := by
  have q : SqT K H a xs := SqT.of (s _ _ h)
  refine ⟨fun hi => ⟨⟨xs, xs[i], q, List.getElem?_eq_getElem hi⟩, fun x H2 ⟨e, y⟩ => ?_⟩, fun hi => ⟨xs, q, hi⟩⟩
  subst e
  exact ⟨Same.refl _, y xs q⟩
theorem items_lst {K : PySem.W.Frag} {a : Addr} {xs : List V} {H1 : Hp} (h : H1 a = some (.lst xs)) (i : Nat) (H : Hp) (s : Same H1 H) :
    (i < xs.length → (Itl K a).go i H ∧ ∀ x H2, (Itl K a).yld i H x H2 → Same H H2 ∧ xs[i]? = some x) ∧ (xs.length ≤ i → (Itl K a).stop i H) := by
  have q : SqL K H a xs := SqL.of (s _ _ h)
  refine ⟨fun hi => ⟨⟨xs, xs[i], q, List.getElem?_eq_getElem hi⟩, fun x H2 ⟨e, y⟩ => ?_⟩, fun hi => ⟨xs, q, hi⟩⟩
  subst e
  exact ⟨Same.refl _, y xs q⟩
/-- over two tracked tuples, side by side -/
theorem items_zip {K : PySem.W.Frag} {a b : Addr} {xs ys : List V} {H1 : Hp} (h : H1 a = some (.tup xs)) (h' : H1 b = some (.tup ys)) (i : Nat) (H : Hp) (s : Same H1 H) :
    (i < min xs.length ys.length → (Itz true K a b).go i H ∧ ∀ v H2, (Itz true K a b).yld i H v H2 → Same H H2 ∧ ∃ p x y, v = .ref p ∧ H2 p = some (.tup [x, y]) ∧ xs[i]? = some x ∧ ys[i]? = some y) ∧ (min xs.length ys.length ≤ i → (Itz true K a b).stop i H) := by
  have q : SqK true K H a xs := SqT.of (s _ _ h)
  have q' : SqK true K H b ys := SqT.of (s _ _ h')
  refine ⟨fun hi => ⟨⟨xs, ys, xs[i]'(by omega), ys[i]'(by omega), q, q', List.getElem?_eq_getElem (by omega), List.getElem?_eq_getElem (by omega)⟩, fun v H2 ⟨p, x, y, e1, e2, e3, e4, e5⟩ => ?_⟩, fun hi => ⟨xs, ys, q, q', ?_⟩⟩
  · subst e3
    exact ⟨same_new e2 _, p, x, y, e1, upd_same, e4 xs q, e5 ys q'⟩
  · by_cases hx : xs.length ≤ i
    · exact .inl (List.getElem?_eq_none hx)
    · exact .inr (List.getElem?_eq_none (by omega))
end L2
end
section
/-! Comprehensions with a name, with a pair of names as target. -/
namespace L2
open PySem PySem.Spec PyProof.Rows
set_option maxHeartbeats 4000000
set_option Elab.async false
set_option linter.unusedVariables false
section
variable {X : Cx} {elt iter : Expr} {ifs : List Expr} {scope : Scope} {pos : Pos} {N : List Str} {js : List Nat} {sc : Scope} {N0 : List Str} {wi : TI} {tt : TT} {te : TE} {x y : Str} {px py tp : Pos} {k : Nat}
theorem blk_loc {cl : List (Str × Addr)} {C : Addr} {s : Shared} {H : Hp} {fp : List Addr} (h : scope.names.lookup x = some .local) : (blk X N scope cl C s H fp).env.scope.names.lookup x = some .local := lookup_relabel_local h
theorem pe_comp1 (hc : X.calm = true) (hsc : X.env.scope = sc) (hN : X.N = N0) (B : Blk sc N0 (x :: N) 1 js scope) (hx : scope.names.lookup x = some .local) (hi : PI X (.Name x px) iter wi)
    (ht : ∀ cl C s H fp, PTs (blk X (x :: N) scope cl C s H fp) ifs tt) (he : ∀ cl C s H fp, PE (blk X (x :: N) scope cl C s H fp) elt te)
    (hs : ∀ x, foldedSetIterable iter X.env x = pure x := by intro _; rfl) : PE X (.ListComp elt [⟨.Name x px, iter, ifs, 0⟩] scope pos) (tComp 1 js wi (gName 0) tt te) :=
  pe_comp hc hsc hN B hi (fun cl C s H fp => pg_name (i := 0) B.nd rfl (.inl (blk_loc hx)) (.inr (blk_loc hx))) ht he hs
theorem pe_comp2 (hc : X.calm = true) (hsc : X.env.scope = sc) (hN : X.N = N0) (B : Blk sc N0 (x :: y :: N) 2 js scope) (hx : scope.names.lookup x = some .local) (hy : scope.names.lookup y = some .local) (hi : PI X (.Tuple [.Name x px, .Name y py] k tp) iter wi)
    (ht : ∀ cl C s H fp, PTs (blk X (x :: y :: N) scope cl C s H fp) ifs tt) (he : ∀ cl C s H fp, PE (blk X (x :: y :: N) scope cl C s H fp) elt te)
    (hs : ∀ x, foldedSetIterable iter X.env x = pure x := by intro _; rfl) : PE X (.ListComp elt [⟨.Tuple [.Name x px, .Name y py] k tp, iter, ifs, 0⟩] scope pos) (tComp 2 js wi (gTup X.K 2 (gCons (gName 0) (gCons (gName 1) gNil))) tt te) :=
  pe_comp hc hsc hN B hi (fun cl C s H fp => pg_tup (X := blk X (x :: y :: N) scope cl C s H fp) hc (pgs_cons (pg_name (i := 0) B.nd rfl (.inl (blk_loc hx)) (.inr (blk_loc hx))) (pgs_cons (pg_name (i := 1) B.nd rfl (.inl (blk_loc hy)) (.inr (blk_loc hy))) pgs_nil))) ht he hs
end
end L2
end
section
/-! LONG DISPLAYS: the judgement in a box that is not looked into while it is put together. -/
namespace L2
open PySem PySem.Spec PyProof.Rows
set_option maxHeartbeats 4000000
set_option Elab.async false
set_option linter.unusedVariables false
structure SA (X : Cx) (es : List Expr) (t : TA) : Prop where
  get : PA X es t
structure SE (X : Cx) (e : Expr) (t : TE) : Prop where
  get : PE X e t
section
variable {X : Cx} {e : Expr} {es : List Expr} {te : TE} {t : TA} {pos : Pos}
end
end L2
end
section
/-! reversed(t) of a tuple: what the tables say of the type `reversed`. -/
namespace L2
open PySem PySem.Spec PyProof.Rows
set_option maxHeartbeats 4000000
set_option maxRecDepth 100000
set_option Elab.async false
set_option linter.unusedVariables false
end L2
end
section
namespace L2
open PySem PySem.Spec PyProof.Rows
set_option maxHeartbeats 4000000
set_option maxRecDepth 100000
set_option Elab.async false
set_option linter.unusedVariables false
section
variable {prog : Program} {w : World} {A : Around} {E : Value → Shared → Prop}
end
section
variable {X : Cx} {tg : Expr}
end
end L2
end
section
/-! Tuples of ints held side by side; list(range(a, b, c)); comprehensions with a test. -/
namespace L2
open PySem PySem.Spec PyProof.Rows
set_option maxHeartbeats 4000000
set_option Elab.async false
set_option linter.unusedVariables false
theorem vals_of : ∀ (us : List Value) (ns : List Int), us.length = ns.length → (∀ (j : Nat) (u : Value), us[j]? = some u → ∃ t, ∃ i, ns[j]? = some i ∧ u = Value.int i t) → Vals (ns.map V.int) us
  | [], [], _, _ => .nil
  | x :: r, n :: ns, hl, hh => by
    obtain ⟨t, i, e1, e2⟩ := hh 0 x rfl
    have e1' : n = i := by simpa using e1
    subst e1' e2
    exact .cons ⟨t, rfl⟩ (vals_of r ns (by simpa using hl) fun j u h => hh (j + 1) u h)
theorem all_same (ns ms : List Int) : ((List.range (min ns.length ms.length)).all (fun j => ns.getD j 0 == ms.getD j 0) && (ns.length == ms.length)) = decide (ns = ms) := by
  rw [Bool.eq_iff_iff, Bool.and_eq_true, List.all_eq_true, decide_eq_true_eq, beq_iff_eq]
  constructor
  · rintro ⟨h1, h2⟩
    apply List.ext_getElem h2
    intro i a b
    have := h1 i (List.mem_range.mpr (by omega))
    rw [beq_iff_eq, List.getD_eq_getElem?_getD, List.getD_eq_getElem?_getD, List.getElem?_eq_getElem a, List.getElem?_eq_getElem b] at this
    exact this
  · rintro rfl
    exact ⟨fun i _ => by rw [beq_iff_eq], rfl⟩
theorem of_rcne' {prog : Program} {w : World} {A : Around} {E : Value → Shared → Prop} {s : Shared} {a b : Value} {k : Bool} {Q : Value → Shared → Prop} (h : SeqAt.RcNeAt A s a b k) (hq : Q (.bool k) s) : wpAny (model prog w) A (compareOp .NotEq a b) Q E s := h prog w E Q hq
section
variable {X : Cx}
theorem int_val {n : Int} {u : Value} (r : RelV (.int n) u) : ∃ t, u = .int n t := r
theorem ints_eqAt {A : Around} {s : Shared} {ns ms : List Int} {its its2 : List Value} (r1 : Vals (ns.map V.int) its) (r2 : Vals (ms.map V.int) its2) (j : Nat) (h1 : j < its.toArray.size) (h2 : j < its2.toArray.size) :
    SeqAt.EqAt A s its.toArray[j] its2.toArray[j] (ns.getD j 0 == ms.getD j 0) := by
  have l1 := r1.length
  have l2 := r2.length
  rw [List.length_map] at l1 l2
  simp only [List.size_toArray] at h1 h2
  have e1 : (ns.map V.int)[j]? = some (.int ns[j]) := by rw [List.getElem?_map, List.getElem?_eq_getElem (by omega)]; rfl
  have e2 : (ms.map V.int)[j]? = some (.int ms[j]) := by rw [List.getElem?_map, List.getElem?_eq_getElem (by omega)]; rfl
  obtain ⟨u, hu, ru⟩ := r1.get e1
  obtain ⟨v, hv, rv⟩ := r2.get e2
  obtain ⟨t, rfl⟩ := int_val ru
  obtain ⟨t', rfl⟩ := int_val rv
  have a1 : its.toArray[j] = .int ns[j] t := by
    have := (List.getElem?_eq_some_iff.mp hu).2
    simpa using this
  have a2 : its2.toArray[j] = .int ms[j] t' := by
    have := (List.getElem?_eq_some_iff.mp hv).2
    simpa using this
  rw [a1, a2, List.getD_eq_getElem?_getD, List.getD_eq_getElem?_getD, List.getElem?_eq_getElem (by omega), List.getElem?_eq_getElem (by omega)]
  exact SeqAt.EqAt.int_int _ _ _ _
end
end L2
end
section
/-! name = [comprehension]; comprehensions with a test; ranges walked by a comprehension. -/
namespace L2
open PySem PySem.Spec PyProof.Rows
set_option maxHeartbeats 4000000
set_option Elab.async false
set_option linter.unusedVariables false
/-- name = [comprehension]: the name is stored while the block still stands -/
def tSetC (i : Nat) (te : TE) : TS := fun D σ H => te σ H fun v H1 => D.nx (σ.set i (some v)) H1
end L2
end
section
/-! Comprehensions with a test; ranges and reversed tuples walked by one. -/
namespace L2
open PySem PySem.Spec PyProof.Rows
set_option maxHeartbeats 4000000
set_option Elab.async false
set_option linter.unusedVariables false
theorem range_filter_succ (n : Nat) (keep : Nat → Bool) : (List.range (n + 1)).filter keep = (List.range n).filter keep ++ (if keep n = true then [n] else []) := by
  rw [List.range_succ, List.filter_append]
  congr 1
  cases h : keep n <;> simp [h]
theorem comp_sel {J : It} {g : TG} {tt : TT} {te : TE} {Q : VK} {D : Addr} {H1 : Hp} {σ0 : St} (n : Nat) (hn : n ≤ sizeLine) (keep : Nat → Bool) (f : Nat → V) (Sg : St → Prop) (itm : Nat → Hp → V → Prop) (hD : H1 D = none) (s0 : Sg σ0)
    (items : ∀ i H, Same H1 H → (i < n → J.go i H ∧ ∀ x H2, J.yld i H x H2 → Same H H2 ∧ itm i H2 x) ∧ (n ≤ i → J.stop i H))
    (step : ∀ i x σ' H, i < n → Same H1 H → itm i H x → Sg σ' → ∀ (R : St → V → Hp → Prop) (S : St → Hp → Prop), (keep i = true → ∀ σ3 y H5, Sg σ3 → Same H H5 → y = f i → R σ3 y H5) → (keep i = false → ∀ σ3 H4, Sg σ3 → Same H H4 → S σ3 H4) →
      g x σ' H fun σ3 H3 => tt σ3 H3 fun ok H4 => if ok = true then te σ3 H4 (R σ3) else S σ3 H4)
    (fin : ∀ H', Same H1 H' → H' D = some (.lst (((List.range n).filter keep).map f)) → Q (.ref D) H') :
    cmpW J g tt te Q D σ0 H1 := by
  refine ⟨fun i m σ H => m = n - i ∧ i ≤ n ∧ Sg σ ∧ Same H1 H ∧ H D = some (.lst (((List.range i).filter keep).map f)), ⟨n, by omega, Nat.zero_le _, s0, (Same.refl H1).upd_free hD _, upd_same⟩, ?_⟩
  rintro i m σ H ⟨rfl, hi, hs, sm, hd⟩
  by_cases hlt : i < n
  · obtain ⟨go, yl⟩ := (items i H sm).1 hlt
    refine .inr ⟨go, fun x H2 y => ?_⟩
    obtain ⟨s2, im⟩ := yl x H2 y
    refine step i x σ H2 hlt (sm.trans s2) im hs _ _ (fun kp σ3 y H5 g3 s5 ey => ?_) (fun kp σ3 H4 g3 s4 => ?_)
    · have ll : (((List.range i).filter keep).map f).length ≤ i := by
        rw [List.length_map]
        exact Nat.le_trans (List.length_filter_le _ _) (by rw [List.length_range]; exact Nat.le_refl _)
      refine ⟨_, s5 _ _ (s2 _ _ hd), by omega, n - (i + 1), by omega, rfl, by omega, g3, (sm.trans (s2.trans s5)).upd_free hD _, ?_⟩
      rw [upd_same, ey, range_filter_succ, if_pos kp, List.map_append]
      rfl
    · refine ⟨n - (i + 1), by omega, rfl, by omega, g3, sm.trans (s2.trans s4), ?_⟩
      rw [s4 _ _ (s2 _ _ hd), range_filter_succ, if_neg (by rw [kp]; exact Bool.false_ne_true), List.append_nil]
  · have e : i = n := by omega
    subst e
    exact .inl ⟨(items i H sm).2 (Nat.le_refl _), fin H sm hd⟩
theorem items_rng {H1 : Hp} (lo : Int) (n : Nat) (i : Nat) (H : Hp) (s : Same H1 H) :
    (i < n → (Itr lo n).go i H ∧ ∀ x H2, (Itr lo n).yld i H x H2 → Same H H2 ∧ x = .int (lo + (i : Int))) ∧ (n ≤ i → (Itr lo n).stop i H) := by
  refine ⟨fun hi => ⟨hi, fun x H2 ⟨e, y⟩ => ?_⟩, fun hi => hi⟩
  subst e
  exact ⟨Same.refl _, y⟩
end L2
end
section
/-! BALLS AND BOXES: a carrier goes from the left to the right over the boxes. -/
namespace BB
/-- at one box: the load behind it, and whether a ball lies there then -/
def stp (z L : Nat) (b : Bool) : Nat × Bool :=
  if b then (if L < z then (L + 1, false) else (L, true)) else (if 0 < L then (L - 1, true) else (0, false))
def out (z : Nat) : Nat → List Bool → List Bool
  | _, [] => []
  | L, b :: r => (stp z L b).2 :: out z (stp z L b).1 r
def fin (z : Nat) : Nat → List Bool → Nat
  | L, [] => L
  | L, b :: r => fin z (stp z L b).1 r
theorem stp_le {z L : Nat} {b : Bool} (h : L ≤ z) : (stp z L b).1 ≤ z := by
  unfold stp
  cases b <;> simp only [Bool.false_eq_true, if_false, if_true]
  · split <;> simp only <;> omega
  · split <;> simp only <;> omega
theorem stp_back {z L : Nat} {b : Bool} (h : L ≤ z) : stp z (stp z L b).1 (stp z L b).2 = (L, b) := by
  unfold stp
  cases b
  · by_cases c : 0 < L
    · simp only [Bool.false_eq_true, if_false, if_true, if_pos c]
      rw [if_pos (by omega)]
      congr 1
      omega
    · simp only [Bool.false_eq_true, if_false, if_neg c, Nat.lt_irrefl]
      congr 1
      omega
  · by_cases c : L < z
    · simp only [if_true, if_pos c, Bool.false_eq_true, if_false, Nat.succ_pos]
      rfl
    · simp only [if_true, if_neg c]
theorem out_append (z : Nat) : ∀ (L : Nat) (x y : List Bool), out z L (x ++ y) = out z L x ++ out z (fin z L x) y
  | _, [], _ => rfl
  | L, b :: r, y => by
    show _ :: out z _ (r ++ y) = _ :: (out z _ r ++ _)
    rw [out_append z _ r y]
    rfl
theorem fin_append (z : Nat) : ∀ (L : Nat) (x y : List Bool), fin z L (x ++ y) = fin z (fin z L x) y
  | _, [], _ => rfl
  | L, b :: r, y => fin_append z _ r y
theorem out_length (z : Nat) : ∀ (L : Nat) (bs : List Bool), (out z L bs).length = bs.length
  | _, [] => rfl
  | L, b :: r => by
    show (out z _ r).length + 1 = r.length + 1
    rw [out_length z _ r]
/-- from the right to the left it is all undone -/
theorem back {z : Nat} : ∀ {L : Nat} {bs : List Bool}, L ≤ z → out z (fin z L bs) (out z L bs).reverse = bs.reverse ∧ fin z (fin z L bs) (out z L bs).reverse = L
  | L, [], _ => ⟨rfl, rfl⟩
  | L, b :: r, h => by
    obtain ⟨h1, h2⟩ := back (bs := r) (stp_le (b := b) h)
    have e : (out z L (b :: r)).reverse = (out z (stp z L b).1 r).reverse ++ [(stp z L b).2] := List.reverse_cons
    have ef : fin z L (b :: r) = fin z (stp z L b).1 r := rfl
    have hb := stp_back (b := b) h
    rw [e, ef, out_append, fin_append, h1, h2]
    constructor
    · show r.reverse ++ [(stp z (stp z L b).1 (stp z L b).2).2] = _
      rw [hb, List.reverse_cons]
    · show (stp z (stp z L b).1 (stp z L b).2).1 = L
      rw [hb]
theorem count_out {z : Nat} : ∀ {L : Nat} {bs : List Bool}, (out z L bs).count true + fin z L bs = L + bs.count true
  | L, [] => by simp [out, fin]
  | L, b :: r => by
    have ih := count_out (z := z) (L := (stp z L b).1) (bs := r)
    have e1 : out z L (b :: r) = (stp z L b).2 :: out z (stp z L b).1 r := rfl
    have e2 : fin z L (b :: r) = fin z (stp z L b).1 r := rfl
    rw [e1, e2, List.count_cons, List.count_cons]
    have k : (stp z L b).1 + (if (stp z L b).2 == true then 1 else 0) = L + (if b == true then 1 else 0) := by
      unfold stp
      cases b
      · simp only [Bool.false_eq_true, if_false]
        split <;> simp <;> omega
      · simp only [if_true]
        split <;> simp
    omega
/-- the places of the balls -/
def places : Int → List Bool → List Int
  | _, [] => []
  | lo, b :: r => (if b = true then [lo] else []) ++ places (lo + 1) r
theorem places_append : ∀ (lo : Int) (x y : List Bool), places lo (x ++ y) = places lo x ++ places (lo + (x.length : Int)) y
  | lo, [], y => by show places lo y = places (lo + ((0 : Nat) : Int)) y; congr 1; omega
  | lo, b :: r, y => by
    show _ ++ places (lo + 1) (r ++ y) = (_ ++ places (lo + 1) r) ++ places (lo + ((r.length + 1 : Nat) : Int)) y
    rw [places_append (lo + 1) r y, List.append_assoc]
    congr 3
    omega
theorem places_length : ∀ (lo : Int) (bs : List Bool), (places lo bs).length = bs.count true
  | _, [] => rfl
  | lo, b :: r => by
    show (_ ++ places (lo + 1) r).length = _
    rw [List.length_append, places_length (lo + 1) r, List.count_cons]
    cases b <;> simp <;> omega
theorem places_ge : ∀ {lo : Int} {bs : List Bool} {p : Int}, p ∈ places lo bs → lo ≤ p ∧ p < lo + (bs.length : Int)
  | lo, [], p, h => by cases h
  | lo, b :: r, p, h => by
    rcases List.mem_append.mp (show p ∈ (if b = true then [lo] else []) ++ places (lo + 1) r from h) with h | h
    · cases b
      · cases h
      · have : p = lo := by simpa using h
        subst this
        simp only [List.length_cons]
        omega
    · have := places_ge h
      simp only [List.length_cons]
      omega
theorem places_up : ∀ (lo : Int) (bs : List Bool), (places lo bs).Pairwise (· < ·)
  | _, [] => .nil
  | lo, b :: r => by
    refine List.pairwise_append.mpr ⟨by cases b <;> simp, places_up (lo + 1) r, fun x hx y hy => ?_⟩
    have := places_ge hy
    cases b
    · cases hx
    · have : x = lo := by simpa using hx
      omega
def mir (row : List Int) : List Int := row.reverse.map fun p => -p
theorem mir_length (row : List Int) : (mir row).length = row.length := by unfold mir; rw [List.length_map, List.length_reverse]
theorem mir_up {row : List Int} (h : row.Pairwise (· < ·)) : (mir row).Pairwise (· < ·) := by
  unfold mir
  rw [List.pairwise_map, List.pairwise_reverse]
  exact h.imp fun {a b} z => by omega
/-- as many places on from lo -/
def row (lo : Int) (n : Nat) : List Int := (List.range n).map fun (k : Nat) => lo + (k : Int)
theorem row_zero (lo : Int) : row lo 0 = [] := rfl
theorem row_succ (lo : Int) (n : Nat) : row lo (n + 1) = lo :: row (lo + 1) n := by
  unfold row
  rw [List.range_succ_eq_map, List.map_cons, List.map_map]
  congr 1
  · show lo + ((0 : Nat) : Int) = lo
    omega
  · refine List.map_congr_left fun k _ => ?_
    show lo + ((k + 1 : Nat) : Int) = lo + 1 + (k : Int)
    omega
/-- ball by ball -/
def sp (z : Nat) : Nat → Int → List Int → List Int
  | L, box, [] => row box L
  | L, box, p :: r => row box (min L (p - box).toNat) ++
    (if L - min L (p - box).toNat < z then sp z (L - min L (p - box).toNat + 1) (p + 1) r else p :: sp z (L - min L (p - box).toNat) (p + 1) r)
theorem sp_gap {z L : Nat} {lo : Int} {rw_ : List Int} (h : ∀ p ∈ rw_, lo + 1 ≤ p) : sp z L lo rw_ = if 0 < L then lo :: sp z (L - 1) (lo + 1) rw_ else sp z 0 (lo + 1) rw_ := by
  cases rw_ with
  | nil =>
    show row lo L = if 0 < L then lo :: row (lo + 1) (L - 1) else row (lo + 1) 0
    cases L with
    | zero => rfl
    | succ L => rw [if_pos (Nat.succ_pos L), row_succ]; rfl
  | cons p r =>
    have hp := h p (List.mem_cons_self ..)
    cases L with
    | zero =>
      rw [if_neg (by omega)]
      unfold sp
      rw [Nat.zero_min, Nat.zero_min]
      rfl
    | succ L =>
      rw [if_pos (Nat.succ_pos L)]
      have e : min (L + 1) (p - lo).toNat = min L (p - (lo + 1)).toNat + 1 := by omega
      unfold sp
      rw [e, row_succ, show L + 1 - 1 = L from rfl, show L + 1 - (min L (p - (lo + 1)).toNat + 1) = L - min L (p - (lo + 1)).toNat by omega]
      rfl
theorem sp_places (z : Nat) : ∀ (L : Nat) (lo : Int) (bs : List Bool), sp z L lo (places lo bs) = places lo (out z L bs) ++ row (lo + (bs.length : Int)) (fin z L bs)
  | L, lo, [] => by
    show row lo L = [] ++ row (lo + ((0 : Nat) : Int)) L
    rw [List.nil_append]
    congr 1
    omega
  | L, lo, false :: r => by
    have e : places lo (false :: r) = places (lo + 1) r := rfl
    rw [e, sp_gap fun p hp => (places_ge hp).1]
    have el : lo + 1 + (r.length : Int) = lo + ((false :: r).length : Int) := by simp only [List.length_cons]; omega
    by_cases c : 0 < L
    · rw [if_pos c, sp_places z (L - 1) (lo + 1) r, el]
      have e1 : stp z L false = (L - 1, true) := by unfold stp; simp only [Bool.false_eq_true, if_false, if_pos c]
      show _ = ((if (stp z L false).2 = true then [lo] else []) ++ places (lo + 1) (out z (stp z L false).1 r)) ++ row _ (fin z (stp z L false).1 r)
      rw [e1]
      rfl
    · rw [if_neg c, sp_places z 0 (lo + 1) r, el]
      have e1 : stp z L false = (0, false) := by unfold stp; simp only [Bool.false_eq_true, if_false, if_neg c]
      show _ = ((if (stp z L false).2 = true then [lo] else []) ++ places (lo + 1) (out z (stp z L false).1 r)) ++ row _ (fin z (stp z L false).1 r)
      rw [e1]
      rfl
  | L, lo, true :: r => by
    have e : places lo (true :: r) = lo :: places (lo + 1) r := rfl
    have el : lo + 1 + (r.length : Int) = lo + ((true :: r).length : Int) := by simp only [List.length_cons]; omega
    rw [e]
    unfold sp
    have em : min L (lo - lo).toNat = 0 := by rw [Int.sub_self]; exact Nat.min_zero L
    rw [em, row_zero, List.nil_append, Nat.sub_zero]
    by_cases c : L < z
    · rw [if_pos c, sp_places z (L + 1) (lo + 1) r, el]
      have e1 : stp z L true = (L + 1, false) := by unfold stp; simp only [if_true, if_pos c]
      show _ = ((if (stp z L true).2 = true then [lo] else []) ++ places (lo + 1) (out z (stp z L true).1 r)) ++ row _ (fin z (stp z L true).1 r)
      rw [e1]
      rfl
    · rw [if_neg c, sp_places z L (lo + 1) r, el]
      have e1 : stp z L true = (L, true) := by unfold stp; simp only [if_true, if_neg c]
      show _ = ((if (stp z L true).2 = true then [lo] else []) ++ places (lo + 1) (out z (stp z L true).1 r)) ++ row _ (fin z (stp z L true).1 r)
      rw [e1]
      rfl
theorem sp_free {z : Nat} {box box' : Int} : ∀ {r : List Int}, sp z 0 box r = sp z 0 box' r
  | [] => rfl
  | p :: r => by
    unfold sp
    rw [Nat.zero_min, Nat.zero_min]
    rfl
/-- the row behind a step of a carrier -/
def step (z : Nat) (r : List Int) : List Int := sp z 0 (r.headD 0) r
theorem step_places {z : Nat} {lo : Int} {bs : List Bool} (h : fin z 0 bs = 0) : step z (places lo bs) = places lo (out z 0 bs) := by
  unfold step
  rw [sp_free (box' := lo), sp_places, h, row_zero, List.append_nil]
/-- every rising row is the places of some boxes -/
theorem cells : ∀ (n : Nat) (lo : Int) (r : List Int), r.Pairwise (· < ·) → (∀ p ∈ r, lo ≤ p ∧ p < lo + (n : Int)) → ∃ bs : List Bool, bs.length = n ∧ places lo bs = r
  | 0, lo, r, _, h => by
    cases r with
    | nil => exact ⟨[], rfl, rfl⟩
    | cons p r => have := h p (List.mem_cons_self ..); omega
  | n + 1, lo, r, up, h => by
    cases r with
    | nil =>
      obtain ⟨bs, e1, e2⟩ := cells n (lo + 1) [] .nil (fun p hp => by cases hp)
      exact ⟨false :: bs, by rw [List.length_cons, e1], e2⟩
    | cons p r =>
      obtain ⟨u1, u2⟩ := List.pairwise_cons.mp up
      have hp := h p (List.mem_cons_self ..)
      by_cases c : p = lo
      · subst c
        obtain ⟨bs, e1, e2⟩ := cells n (p + 1) r u2 fun q hq => by
          have := u1 q hq
          have := h q (List.mem_cons_of_mem _ hq)
          omega
        refine ⟨true :: bs, by rw [List.length_cons, e1], ?_⟩
        show [p] ++ places (p + 1) bs = _
        rw [e2]
        rfl
      · obtain ⟨bs, e1, e2⟩ := cells n (lo + 1) (p :: r) up fun q hq => by
          have := h q hq
          rcases List.mem_cons.mp hq with rfl | hq'
          · omega
          · have := u1 q hq'
            omega
        exact ⟨false :: bs, by rw [List.length_cons, e1], e2⟩
theorem fin_falses (z : Nat) : ∀ (k L : Nat), fin z L (List.replicate k false) = L - k
  | 0, L => rfl
  | k + 1, L => by
    show fin z (stp z L false).1 (List.replicate k false) = _
    rw [fin_falses z k]
    unfold stp
    simp only [Bool.false_eq_true, if_false]
    split <;> simp only <;> omega
theorem places_falses : ∀ (k : Nat) (lo : Int), places lo (List.replicate k false) = []
  | 0, _ => rfl
  | k + 1, lo => places_falses k (lo + 1)
/-- with boxes enough behind, the carrier ends with nothing -/
theorem window (z : Nat) {A B : Int} {r : List Int} (up : r.Pairwise (· < ·)) (h : ∀ p ∈ r, A ≤ p ∧ p ≤ B) : ∃ bs : List Bool, places A bs = r ∧ fin z 0 bs = 0 ∧ bs.count true = r.length ∧ (r ≠ [] → A + (bs.length : Int) ≤ B + 1 + (r.length : Int)) := by
  obtain ⟨bs, e1, e2⟩ := cells (B + 1 - A).toNat A r up fun p hp => by have := h p hp; omega
  have hc : bs.count true = r.length := by rw [← places_length A bs, e2]
  have hf : fin z 0 bs ≤ r.length := by have := count_out (z := z) (L := 0) (bs := bs); omega
  refine ⟨bs ++ List.replicate (fin z 0 bs) false, ?_, ?_, ?_, fun ne => ?_⟩
  · rw [places_append, places_falses, List.append_nil, e2]
  · rw [fin_append, fin_falses, Nat.sub_self]
  · rw [List.count_append, hc]
    have : (List.replicate (fin z 0 bs) false).count true = 0 := by simp [List.count_replicate]
    omega
  · cases r with
    | nil => exact absurd rfl ne
    | cons p r =>
      have := h p (List.mem_cons_self ..)
      rw [List.length_append, List.length_replicate, e1]
      omega
/-- rising, so many, between A and B -/
structure Rw (r : List Int) (k : Nat) (A B : Int) : Prop where
  up : r.Pairwise (· < ·)
  len : r.length = k
  bd : ∀ p ∈ r, A ≤ p ∧ p ≤ B
theorem Rw.mono {r : List Int} {k : Nat} {A B A' B' : Int} (h : Rw r k A B) (ha : A' ≤ A) (hb : B ≤ B') : Rw r k A' B' := ⟨h.up, h.len, fun p hp => by have := h.bd p hp; omega⟩
theorem Rw.mir {r : List Int} {k : Nat} {A B : Int} (h : Rw r k A B) : Rw (mir r) k (-B) (-A) := ⟨mir_up h.up, by rw [mir_length, h.len], fun p hp => by
  obtain ⟨q, hq, rfl⟩ := List.mem_map.mp hp
  have := h.bd q (List.mem_reverse.mp hq)
  omega⟩
theorem Rw.step {r : List Int} {k : Nat} {A B : Int} (z : Nat) (h : Rw r k A B) : Rw (step z r) k A (B + (k : Int)) := by
  obtain ⟨bs, e1, e2, e3, e4⟩ := window z h.up h.bd
  have hc := count_out (z := z) (L := 0) (bs := bs)
  rw [← e1, step_places e2]
  refine ⟨places_up _ _, by rw [places_length]; have := h.len; omega, fun p hp => ?_⟩
  have := places_ge hp
  rw [out_length] at this
  have ne : r ≠ [] := fun w => by
    have : (places A (out z 0 bs)).length = 0 := by rw [places_length]; rw [w] at e3; simp only [List.length_nil] at e3; omega
    rw [List.length_eq_zero_iff] at this
    rw [this] at hp
    cases hp
  have := e4 ne
  have := h.len
  omega
/-- the row of which it is the row behind a step -/
def unstep (z : Nat) (r : List Int) : List Int := mir (step z (mir r))
theorem Rw.unstep {r : List Int} {k : Nat} {A B : Int} (z : Nat) (h : Rw r k A B) : Rw (unstep z r) k (A - (k : Int)) B := by
  have := (h.mir.step z).mir
  rw [Int.neg_neg, show -(-A + (k : Int)) = A - (k : Int) by omega] at this
  exact this
end BB
end
section
/-! Steps again and again, shifts, loads. -/
namespace BB
def it (f : List Int → List Int) : Nat → List Int → List Int
  | 0, r => r
  | n + 1, r => f (it f n r)
theorem Rw.its {z : Nat} {r : List Int} {k : Nat} {A B : Int} (h : Rw r k A B) : ∀ n : Nat, Rw (it (BB.step z) n r) k A (B + (n : Int) * (k : Int))
  | 0 => by
    show Rw r k A (B + ((0 : Nat) : Int) * (k : Int))
    rw [show ((0 : Nat) : Int) * (k : Int) = 0 by simp, Int.add_zero]
    exact h
  | n + 1 => by
    have := (h.its (z := z) n).step z
    rw [show B + ((n + 1 : Nat) : Int) * (k : Int) = B + (n : Int) * (k : Int) + (k : Int) by rw [Int.natCast_add, Int.add_mul]; omega]
    exact this
/-! shifts -/
/-! loads -/
def ld (L : Nat) (b : Bool) : Nat := if b then L + 1 else L - 1
def lst : Nat → List Bool → Nat
  | L, [] => L
  | L, b :: r => lst (ld L b) r
end BB
end
section
/-! name = [comprehension over one name]; two more built-ins. -/
namespace L2
open PySem PySem.Spec PyProof.Rows
set_option maxHeartbeats 4000000
set_option Elab.async false
set_option linter.unusedVariables false
structure Nb2 (mg : Str → Option Value) : Prop extends Nb mg where
  rev : mg "reversed" = none
  abs : mg "abs" = none
section
variable {X : Cx} {elt iter : Expr} {ifs : List Expr} {scope : Scope} {pos pos' spos : Pos} {N : List Str} {js : List Nat} {sc : Scope} {N0 : List Str} {wi : TI} {tt : TT} {te : TE} {x nm : Str} {px : Pos} {ii : Nat}
end
end L2
end
section
set_option Elab.async false
set_option linter.all false
set_option maxRecDepth 100000
namespace L2
open PySem PySem.Spec PyProof.Rows

/-! ### lists of pairs as tables -/
section
variable {κ : Type} [DecidableEq κ]
def valV (kvs : List (κ × V)) (k : κ) : Option V := (kvs.find? fun kv => decide (kv.1 = k)).map (·.2)
/-- in its place, or at the end -/
def putK (kvs : List (κ × V)) (k : κ) (v : V) : List (κ × V) :=
  if (kvs.any fun kv => decide (kv.1 = k)) = true then kvs.map (fun kv => if kv.1 = k then (kv.1, v) else kv) else kvs ++ [(k, v)]
def dropK (kvs : List (κ × V)) (k : κ) : List (κ × V) := kvs.filter fun kv => decide (kv.1 ≠ k)

theorem valV_pos {p : κ × V} {r : List (κ × V)} {k : κ} (e : p.1 = k) : valV (p :: r) k = some p.2 := by simp [valV, List.find?_cons, e]
theorem valV_neg {p : κ × V} {r : List (κ × V)} {k : κ} (e : ¬ p.1 = k) : valV (p :: r) k = valV r k := by simp [valV, List.find?_cons, e]
theorem valV_any (k : κ) : ∀ kvs : List (κ × V), (kvs.any fun kv => decide (kv.1 = k)) = (valV kvs k).isSome
  | [] => rfl
  | p :: r => by
    rw [List.any_cons]
    by_cases e : p.1 = k
    · simp only [valV_pos e, decide_eq_true e, Bool.true_or, Option.isSome_some]
    · rw [valV_neg e, decide_eq_false e, Bool.false_or]; exact valV_any k r
theorem valV_map (k j : κ) (y : V) : ∀ kvs : List (κ × V), valV (kvs.map fun kv => if kv.1 = k then (kv.1, y) else kv) j = (valV kvs j).map fun x => if j = k then y else x
  | [] => rfl
  | p :: r => by
    have ih := valV_map k j y r
    rw [List.map_cons]
    by_cases h : p.1 = k
    · rw [if_pos h]
      by_cases e : p.1 = j
      · rw [valV_pos (p := (p.1, y)) e, valV_pos e, Option.map_some, if_pos (e.symm.trans h)]
      · rw [valV_neg (p := (p.1, y)) e, valV_neg e, ih]
    · rw [if_neg h]
      by_cases e : p.1 = j
      · rw [valV_pos (p := p) e, valV_pos e, Option.map_some, if_neg (fun z => h (e.trans z))]
      · rw [valV_neg (p := p) e, valV_neg e, ih]
theorem valV_snoc (k j : κ) (y : V) : ∀ kvs : List (κ × V), valV kvs k = none → valV (kvs ++ [(k, y)]) j = if j = k then some y else valV kvs j
  | [], _ => by
    by_cases e : k = j
    · rw [if_pos e.symm]; exact valV_pos (p := (k, y)) e
    · rw [if_neg (fun z => e z.symm)]; exact valV_neg (p := (k, y)) e
  | p :: r, hn => by
    rw [List.cons_append]
    have hk : ¬ p.1 = k := fun z => by rw [valV_pos z] at hn; cases hn
    rw [valV_neg hk] at hn
    have ih := valV_snoc k j y r hn
    by_cases e : p.1 = j
    · rw [valV_pos e, valV_pos e, if_neg (fun z => hk (e.trans z))]
    · rw [valV_neg e, valV_neg e, ih]
theorem valV_put (kvs : List (κ × V)) (k j : κ) (y : V) : valV (putK kvs k y) j = if j = k then some y else valV kvs j := by
  unfold putK
  by_cases a : (kvs.any fun kv => decide (kv.1 = k)) = true
  · rw [if_pos a, valV_map]
    rw [valV_any] at a
    by_cases e : j = k
    · obtain ⟨x, hx⟩ := Option.isSome_iff_exists.mp a
      rw [if_pos e, e, hx, Option.map_some, if_pos rfl]
    · rw [if_neg e]
      cases valV kvs j with
      | none => rfl
      | some x => rw [Option.map_some, if_neg e]
  · rw [if_neg a]
    refine valV_snoc k j y kvs ?_
    rw [valV_any] at a
    cases q : valV kvs k with
    | none => rfl
    | some x => rw [q] at a; exact (a rfl).elim
theorem length_putK (kvs : List (κ × V)) (k : κ) (v : V) : (putK kvs k v).length ≤ kvs.length + 1 := by
  unfold putK
  split
  · rw [List.length_map]; omega
  · rw [List.length_append, List.length_cons, List.length_nil]; omega
theorem RelO.isSome_eq {o : Option V} {u : Option Value} (r : RelO o u) : o.isSome = u.isSome := by
  cases o with
  | none => cases u with
    | none => rfl
    | some _ => exact (show False from r).elim
  | some _ => cases u with
    | none => exact (show False from r).elim
    | some _ => rfl
theorem RelO.getD {o : Option V} {u : Option Value} {d : V} {d' : Value} (r : RelO o u) (rd : RelV d d') : RelV (o.getD d) (u.getD d') := by
  cases o with
  | none => cases u with
    | none => exact rd
    | some _ => exact (show False from r).elim
  | some _ => cases u with
    | none => exact (show False from r).elim
    | some _ => exact r

/-- raw tables of the same keys -/
theorem KV.val {kvs : List (κ × V)} {vs : List (κ × Value)} (r : KV kvs vs) (k : κ) : RelO (valV kvs k) (valueAt vs k) := by
  unfold KV at r
  induction r with
  | nil => exact True.intro
  | @cons p q ps qs h t ih =>
    obtain ⟨h1, h2⟩ := h
    by_cases e : p.1 = k
    · have e' : q.1 = k := h1.symm.trans e
      have b : valueAt (q :: qs) k = some q.2 := by simp [valueAt, List.find?_cons, e']
      rw [valV_pos e, b]; exact h2
    · have e' : ¬ q.1 = k := fun z => e (h1.trans z)
      have b : valueAt (q :: qs) k = valueAt qs k := by simp [valueAt, List.find?_cons, e']
      rw [valV_neg e, b]; exact ih
theorem KV.any {kvs : List (κ × V)} {vs : List (κ × Value)} (r : KV kvs vs) (k : κ) : (kvs.any fun kv => decide (kv.1 = k)) = vs.any fun kv => decide (kv.1 = k) := by
  unfold KV at r
  induction r with
  | nil => rfl
  | cons h t ih => rw [List.any_cons, List.any_cons, ih, h.1]
theorem KV.repl {kvs : List (κ × V)} {vs : List (κ × Value)} (r : KV kvs vs) (k : κ) {y : V} {u : Value} (ry : RelV y u) :
    KV (kvs.map fun kv => if kv.1 = k then (kv.1, y) else kv) (vs.map fun kv => if kv.1 = k then (kv.1, u) else kv) := by
  unfold KV at r ⊢
  induction r with
  | nil => exact .nil
  | @cons p q ps qs h t ih =>
    rw [List.map_cons, List.map_cons]
    refine .cons ?_ ih
    obtain ⟨h1, h2⟩ := h
    by_cases e : p.1 = k
    · rw [if_pos e, if_pos (h1.symm.trans e)]; exact ⟨h1, ry⟩
    · rw [if_neg e, if_neg (fun z => e (h1.trans z))]; exact ⟨h1, h2⟩
theorem KV.put {kvs : List (κ × V)} {vs : List (κ × Value)} (r : KV kvs vs) (k : κ) {y : V} {u : Value} (ry : RelV y u) : KV (putK kvs k y) (stored vs k u) := by
  unfold putK stored
  rw [r.any k]
  by_cases e : (vs.any fun kv => decide (kv.1 = k)) = true
  · rw [if_pos e, if_pos e]; exact r.repl k ry
  · rw [if_neg e, if_neg e]; exact Paired.snoc r ⟨rfl, ry⟩
theorem KV.drop {kvs : List (κ × V)} {vs : List (κ × Value)} (r : KV kvs vs) (k : κ) : KV (dropK kvs k) (without vs k) := by
  unfold KV at r ⊢
  unfold dropK without
  induction r with
  | nil => exact .nil
  | @cons p q ps qs h t ih =>
    obtain ⟨h1, h2⟩ := h
    rw [List.filter_cons, List.filter_cons]
    by_cases e : p.1 = k
    · have a : ¬ decide (p.1 ≠ k) = true := by simp [e]
      have b : ¬ decide (q.1 ≠ k) = true := by simp [h1.symm.trans e]
      rw [if_neg a, if_neg b]; exact ih
    · have e' : ¬ q.1 = k := fun z => e (h1.trans z)
      have a : decide (p.1 ≠ k) = true := by simp [e]
      have b : decide (q.1 ≠ k) = true := by simp [e']
      rw [if_pos a, if_pos b]; exact .cons ⟨h1, h2⟩ ih
theorem KV.keys {kvs : List (κ × V)} {vs : List (κ × Value)} (r : KV kvs vs) : kvs.map (·.1) = vs.map (·.1) := by
  unfold KV at r
  induction r with
  | nil => rfl
  | cons h t ih => rw [List.map_cons, List.map_cons, ih, h.1]
theorem KV.length {kvs : List (κ × V)} {vs : List (κ × Value)} (r : KV kvs vs) : kvs.length = vs.length := Paired.length r
end


/-! ### a tracked dict, its keys ints and texts or tuples of these -/
theorem kV_is {P : Program} {w : World} {k : Key} {u : Value} (r : RelV (kV k) u) : (mixKind P w).is k u = true := by
  cases k with
  | inl i => obtain ⟨t, e⟩ := (show ∃ t, u = Value.int i t from r); subst e; exact mixKind_int P w i t
  | inr x => obtain ⟨t, e⟩ := (show ∃ t, u = Value.str x t from r); subst e; exact mixKind_str P w x t
theorem items_are {P : Program} {w : World} : ∀ {ks : List Key} {us : List Value}, Vals (ks.map kV) us → ItemsAre (mixKind P w) ks us
  | [], _, r => by rw [List.map_nil] at r; cases r; exact .nil
  | k :: ks, _, r => by
    rw [List.map_cons] at r
    cases r with
    | cons h t => exact .cons (kV_is h) (items_are t)

/-- raw entries of a dict with tuple keys -/
abbrev KT (H : Hp) : List (List Key × V) → List (List Key × Addr × Value) → Prop := Paired fun p q => p.1 = q.1 ∧ H q.2.1 = some (.tup (p.1.map kV)) ∧ RelV p.2 q.2.2
theorem KT.val {H : Hp} {kvs : List (List Key × V)} {xs : List (List Key × Addr × Value)} (r : KT H kvs xs) (k : List Key) : RelO (valV kvs k) ((atKey xs k).map (·.2)) := by
  induction r with
  | nil => exact True.intro
  | @cons p q ps qs h t ih =>
    obtain ⟨h1, _, h2⟩ := h
    by_cases e : p.1 = k
    · have e' : q.1 = k := h1.symm.trans e
      have b : atKey (q :: qs) k = some q.2 := by simp [atKey, List.find?_cons, e']
      rw [valV_pos e, b]; exact h2
    · have e' : ¬ q.1 = k := fun z => e (h1.trans z)
      have b : atKey (q :: qs) k = atKey qs k := by simp [atKey, List.find?_cons, e']
      rw [valV_neg e, b]; exact ih
theorem KT.repl {H : Hp} {kvs : List (List Key × V)} {xs : List (List Key × Addr × Value)} (r : KT H kvs xs) (k : List Key) {y : V} {u : Value} (ry : RelV y u) :
    KT H (kvs.map fun kv => if kv.1 = k then (kv.1, y) else kv) (xs.map (putAt k u)) := by
  induction r with
  | nil => exact .nil
  | @cons p q ps qs h t ih =>
    rw [List.map_cons, List.map_cons]
    refine .cons ?_ ih
    obtain ⟨h1, h2, h3⟩ := h
    unfold putAt
    by_cases e : p.1 = k
    · rw [if_pos e, if_pos (h1.symm.trans e)]; exact ⟨h1, h2, ry⟩
    · rw [if_neg e, if_neg (fun z => e (h1.trans z))]; exact ⟨h1, h2, h3⟩
theorem KT.put {H : Hp} {kvs : List (List Key × V)} {xs : List (List Key × Addr × Value)} (r : KT H kvs xs) (k : List Key) {b : Addr} {y : V} {u : Value} (hb : H b = some (.tup (k.map kV))) (ry : RelV y u) :
    KT H (putK kvs k y) (storedH xs k b u) := by
  have e : (kvs.any fun kv => decide (kv.1 = k)) = (atKey xs k).isSome := by
    rw [valV_any, (r.val k).isSome_eq, Option.isSome_map]
  unfold putK storedH
  rw [e]
  by_cases q : (atKey xs k).isSome = true
  · rw [if_pos q, if_pos q]; exact r.repl k ry
  · rw [if_neg q, if_neg q]; exact Paired.snoc r ⟨rfl, hb, ry⟩
theorem KT.keeps {H H' : Hp} {kvs : List (List Key × V)} {xs : List (List Key × Addr × Value)} (r : KT H kvs xs) (ht : ∀ b ys, H b = some (.tup ys) → H' b = some (.tup ys)) : KT H' kvs xs :=
  Paired.mapP r fun _ _ z => ⟨z.1, ht _ _ z.2.1, z.2.2⟩

section
variable {P : Program} {w : World} {H : Hp} {h : Heap} {a : Addr}
theorem rd_of {u : HO} (ok : HOk P w H h) (e : Rd H a u) : ObjOk P w H h a u := e.ok ok
theorem dk_rd {kvs : List (Key × V)} (ok : HOk P w H h) (e : Rd H a (.dK kvs)) : kvs.length ≤ sizeLine ∧ (a == sysModules) = false ∧ ∃ vs, KV kvs vs ∧ h.DictOf (mixKind P w) a vs :=
  show ObjOk P w H h a (.dK kvs) from rd_of ok e
theorem dk_of {kvs : List (Key × V)} (ok : HOk P w H h) (e : H a = some (.dK kvs)) : kvs.length ≤ sizeLine ∧ (a == sysModules) = false ∧ ∃ vs, KV kvs vs ∧ h.DictOf (mixKind P w) a vs := dk_rd ok (.inl e)
/-- a tracked tuple of ints and texts is a key -/
theorem key_of {ks : List Key} (ok : HOk P w H h) (e : H a = some (.tup (ks.map kV))) : (tupleKind (mixKind P w)).is h ks a := by
  obtain ⟨_, its, r, o, h1, h2, n, h3⟩ := (show ObjOk P w H h a (.tup (ks.map kV)) from ok a _ e)
  exact ⟨o, its.toArray, n, h1, h2, h3, by simpa using items_are r⟩
theorem dt_rd {kvs : List (List Key × V)} (ok : HOk P w H h) (e : Rd H a (.dT kvs)) : kvs.length ≤ sizeLine ∧ (a == sysModules) = false ∧
    ∃ xs, KT H kvs xs ∧ h.DictOfH (tupleKind (mixKind P w)) a xs := by
  obtain ⟨z, y, xs, r, o, es, ep, h1, h2, h3, h4, h5⟩ := (show ObjOk P w H h a (.dT kvs) from rd_of ok e)
  refine ⟨z, y, xs, r, o, es, ep, h1, h2, h3, h4, fun x hx => ?_, h5⟩
  have all : ∀ {l : List (List Key × V)} {m : List (List Key × Addr × Value)}, KT H l m → ∀ x ∈ m, (tupleKind (mixKind P w)).is h x.1 x.2.1 := by
    intro l m q
    induction q with
    | nil => intro x hx; exact nomatch hx
    | @cons p q ps qs hq t ih =>
      intro x hx
      rcases List.mem_cons.mp hx with e | hx
      · subst e
        exact key_of ok (by rw [← hq.1]; exact hq.2.1)
      · exact ih x hx
  exact all r x hx
theorem dt_of {kvs : List (List Key × V)} (ok : HOk P w H h) (e : H a = some (.dT kvs)) : kvs.length ≤ sizeLine ∧ (a == sysModules) = false ∧
    ∃ xs, KT H kvs xs ∧ h.DictOfH (tupleKind (mixKind P w)) a xs := dt_rd ok (.inl e)
end

/-- what the dict at a holds at the key y -/
def DGet (H : Hp) (a : Addr) (y : V) (r : Option V) : Prop :=
  (∃ kvs k, Rd H a (.dK kvs) ∧ y = kV k ∧ r = valV kvs k) ∨ ∃ kvs k b, Rd H a (.dT kvs) ∧ y = .ref b ∧ H b = some (.tup (k.map kV)) ∧ r = valV kvs k
/-- the heap behind a[y] = v -/
def DPut (H : Hp) (a : Addr) (y v : V) (H' : Hp) : Prop :=
  (∃ kvs k, H a = some (.dK kvs) ∧ y = kV k ∧ kvs.length < sizeLine ∧ H' = upd H a (.dK (putK kvs k v))) ∨
  ∃ kvs k b, H a = some (.dT kvs) ∧ y = .ref b ∧ H b = some (.tup (k.map kV)) ∧ kvs.length < sizeLine ∧ H' = upd H a (.dT (putK kvs k v))
theorem DGet.k {H : Hp} {a : Addr} {kvs : List (Key × V)} {k : Key} (e : H a = some (.dK kvs)) : DGet H a (kV k) (valV kvs k) := .inl ⟨kvs, k, .inl e, rfl, rfl⟩
theorem DGet.t {H : Hp} {a b : Addr} {kvs : List (List Key × V)} {k : List Key} (e : H a = some (.dT kvs)) (eb : H b = some (.tup (k.map kV))) : DGet H a (.ref b) (valV kvs k) := .inr ⟨kvs, k, b, .inl e, rfl, eb, rfl⟩
theorem DPut.k {H : Hp} {a : Addr} {kvs : List (Key × V)} {k : Key} {v : V} (e : H a = some (.dK kvs)) (hl : kvs.length < sizeLine) : DPut H a (kV k) v (upd H a (.dK (putK kvs k v))) := .inl ⟨kvs, k, e, rfl, hl, rfl⟩
theorem DPut.t {H : Hp} {a b : Addr} {kvs : List (List Key × V)} {k : List Key} {v : V} (e : H a = some (.dT kvs)) (eb : H b = some (.tup (k.map kV))) (hl : kvs.length < sizeLine) :
    DPut H a (.ref b) v (upd H a (.dT (putK kvs k v))) := .inr ⟨kvs, k, b, e, rfl, eb, hl, rfl⟩


section
variable {X : Cx} {pins : List (Addr × Obj)} {σ : St} {H : Hp} {s : Shared} {a : Addr} {y v : V} {u r : Value} {o : Option V} {A : Around} {E : Value → Shared → Prop}

theorem Inv.big (I : Inv X pins σ H s) : sysModules < s.heap.objs.size := by
  have h : mainGlobals < s.heap.objs.size := (I.mod.glob.keeps I.bk).lt
  exact Nat.lt_trans (by decide) h

/-- d[y], there -/
theorem d_getItem {Q : Value → Shared → Prop} (hu : A.units + 1 < cLine) (I : Inv X pins σ H s) (g : DGet H a y (some v)) (ry : RelV y u) (h : ∀ w' s', Inv X pins σ H s' → RelV v w' → Q w' s') :
    wpAny (model X.prog X.w) A (getItem (.ref a) u) Q E s := by
  rcases g with ⟨kvs, k, e, ey, l⟩ | ⟨kvs, k, b, e, ey, eb, l⟩
  · subst ey
    obtain ⟨z, hd, vs, rel, dd⟩ := dk_rd I.hok e
    obtain ⟨w', hw, rw'⟩ := RelO.some_of (v := v) (o := valueAt vs k) (by rw [l]; exact rel.val k)
    exact wpAny_getItem_of (kV_is ry) dd.mapOf hw (h w' _ (I.tok _) rw')
  · subst ey
    cases (show u = Value.ref b from ry)
    obtain ⟨z, hd, xs, rel, dd⟩ := dt_rd I.hok e
    obtain ⟨w', hw, rw'⟩ := RelO.some_of (v := v) (o := (atKey xs k).map (·.2)) (by rw [l]; exact rel.val k)
    obtain ⟨p, hp, hp2⟩ := Option.map_eq_some_iff.mp hw
    refine wpAny_getItem_heap (tupleKind_room_in1 hu) (key_of I.hok eb) dd hp ?_
    rw [hp2]
    exact h w' _ (I.tok _) rw'
/-- a dict's object is replaced -/
theorem d_write {h' : Heap} {t' : Nat} {ob : HO} (I : Inv X pins σ H s) (mu : Mut (H a)) (hs : Heap.SameBut a s.heap h') (he : ∃ q, h'.get? a = some q) (new : ObjOk X.prog X.w (upd H a ob) h' a ob) :
    Inv X pins σ (upd H a ob) { s with heap := h', toks := t' } :=
  I.write (x := a) (e := a) mu (.inl rfl) (fun b q hb z => (hs.2 b hb).trans z) he new
theorem dk_new {P : Program} {w : World} {H' : Hp} {h' : Heap} {kvs : List (Key × V)} {vs : List (Key × Value)} (z : kvs.length ≤ sizeLine) (hd : (a == sysModules) = false) (rel : KV kvs vs) (dd : h'.DictOf (mixKind P w) a vs) :
    ObjOk P w H' h' a (.dK kvs) := ⟨z, hd, vs, rel, dd⟩
/-- d[y] = v -/
theorem d_setItem {H' : Hp} {Q : Unit → Shared → Prop} (hu : A.units + 1 < cLine) (I : Inv X pins σ H s) (g : DPut H a y v H') (ry : RelV y u) (rv : RelV v r) (h : ∀ s', Inv X pins σ H' s' → Q () s') :
    wpAny (model X.prog X.w) A (setItem (.ref a) u r) Q E s := by
  rcases g with ⟨kvs, k, e, ey, l, eH⟩ | ⟨kvs, k, b, e, ey, eb, l, eH⟩
  · subst ey eH
    obtain ⟨z, hd, vs, rel, dd⟩ := dk_of I.hok e
    have hz : vs.length ≤ sizeLine := by rw [← rel.length]; exact z
    have hl : (putK kvs k v).length ≤ sizeLine := by have := length_putK kvs k v; omega
    refine wpAny_setItem_pairs (hsz := hz) (kV_is ry) dd fun h' dd' hs => h _ ?_
    have he : ∃ q, h'.get? a = some q := let ⟨q, _, _, hq, _⟩ := dd'; ⟨q, hq⟩
    exact d_write I (by rw [e]; exact True.intro) hs he (dk_new hl hd (rel.put k rv) dd')
  · subst ey eH
    cases (show u = Value.ref b from ry)
    obtain ⟨z, hd, xs, rel, dd⟩ := dt_of I.hok e
    have hz : xs.length ≤ sizeLine := by rw [← Paired.length rel]; exact z
    have hl : (putK kvs k v).length ≤ sizeLine := by have := length_putK kvs k v; omega
    refine wpAny_setItem_heap (hsz := hz) (tupleKind_room_in1 hu) (key_of I.hok eb) dd fun h' dd' hs => h _ ?_
    obtain ⟨q, es, ep, hq, h2, h3, h4, _, h5⟩ := dd'
    refine d_write I (by rw [e]; exact True.intro) hs ⟨q, hq⟩ ⟨hl, hd, _, (rel.put k eb rv).keeps fun c ys ec => ?_, q, es, ep, hq, h2, h3, h4, h5⟩
    rw [upd_ne (ne_of ec e (fun z => nomatch z))]
    exact ec
end

section
variable {X : Cx} {pins : List (Addr × Obj)} {σ : St} {H : Hp} {s : Shared} {a : Addr} {kvs : List (Key × V)} {k : Key} {u : Value} {A : Around} {E : Value → Shared → Prop}
end


/-! ### readings and rules -/
/-- the element of a subscription, not a slice -/
def NoSl (i : Expr) : Prop := ∀ ov iv, subscripted i false ov iv = operate [ov, iv] (getItem ov iv)
theorem subD_of {prog : Program} {w : World} {A : Around} {E : Value → Shared → Prop} {s : Shared} {env : Env} {value slice : Expr} {pos : Pos} {T id : String} {Q : Value → Shared → Prop}
    (hl : typeLookup (.type T) "__getitem__" = pure (some (.builtin id))) (hs : NoSl slice)
    (h : wpAny (model prog w) A (eval value env) (fun o s₁ => wpAny (model prog w) A (eval slice env) (fun i s₂ => s₂.TypeIs o T ∧ wpAny (model prog w) A (getItem o i) Q E s₂) E s₁) E s) :
    wpAny (model prog w) A (eval (.Subscript value slice pos) env) Q E s := by
  refine Subscript_ (wpAny_mono h (fun o s₁ h₁ => wpAny_mono h₁ (fun i s₂ h₂ => ?_) fun _ _ x => x) fun _ _ x => x)
  obtain ⟨hT, h₂⟩ := h₂
  unfold subscriptTail
  refine wpAny_bind ?_
  rw [getitemInPython_of_ne hT.not_modules]
  refine wpAny_bind (wpAny_specialOf hT hl ?_)
  have fin : wpAny (model prog w) A (subscripted slice false o i) (fun r s₃ => wpAny (model prog w) A (letTemporaryGo value o r >>= fun _ => pure r) Q E s₃) E s₂ := by
    rw [hs o i]
    exact wpAny_operating (wpAny_mono h₂ (fun r s₃ h₃ => wpAny_bind (wpAny_letTemporaryGo (wpAny_pure h₃))) fun _ _ x => x)
  first
    | exact wpAny_pure (wpAny_bind fin)
    | exact wpAny_bind (wpAny_pure (wpAny_bind fin))
    | exact wpAny_bind fin

theorem dict_typeIs {X : Cx} {pins : List (Addr × Obj)} {σ : St} {H : Hp} {s : Shared} {a : Addr} {y : V} {o : Option V} (I : Inv X pins σ H s) (g : DGet H a y o) : s.TypeIs (.ref a) "dict" := by
  rcases g with ⟨kvs, k, e, _, _⟩ | ⟨kvs, k, b, e, _, _, _⟩
  · obtain ⟨_, _, vs, _, dd⟩ := dk_rd I.hok e
    exact dd.typeIs
  · obtain ⟨_, _, xs, _, dd⟩ := dt_rd I.hok e
    exact dd.typeIs
/-- d[y] -/
def tDGet (td ty : TE) : TE := fun σ H Q => td σ H fun x H1 => ty σ H1 fun y H2 => ∃ a v, x = .ref a ∧ DGet H2 a y (some v) ∧ Q v H2
/-- d[y] = v -/
def sDPut (td ty tv : TE) : TS := fun D σ H => tv σ H fun v H1 => td σ H1 fun x H2 => ty σ H2 fun y H3 => ∃ a H4, x = .ref a ∧ DPut H3 a y v H4 ∧ D.nx σ H4
section
variable {X : Cx} {o i e value : Expr} {pos pos' tpos : Pos} {td ty tv : TE}
theorem pe_dget (hu : X.A.units + 1 < cLine) (ho : PE X o td) (hi : PE X i ty) (hs : NoSl i) : PE X (.Subscript o i pos) (tDGet td ty) := by
  intro pins s σ H Q I h
  refine subD_of PySem.F.slot_dict_getitem.lookup hs (thn (ho pins s σ H _ I h) fun u s1 ⟨x, H1, I1, rx, q1⟩ => thn (hi pins s1 σ H1 _ I1 q1) fun iv s2 ⟨y, H2, I2, ry, a, v, ex, g, q2⟩ => ?_)
  subst ex
  obtain rfl : u = Value.ref a := rx
  exact ⟨dict_typeIs I2 g, d_getItem hu I2 g ry fun w' s3 I3 rw' => ⟨v, H2, I3, rw', q2⟩⟩
theorem ps_dput (hu : X.A.units + 1 < cLine) (ho : PE X o td) (hi : PE X i ty) (hv : PE X value tv) (hs : swapsWith value (some (.Subscript o i pos')) pos.line X.env = pure false) :
    PS X (.Assign [.Subscript o i pos'] value pos) (sDPut td ty tv) := by
  intro pins s σ H D I h
  refine wpAny_Assign_Subscript (thn (hv pins s σ H _ I h) fun r s1 ⟨v, H1, I1, rv, q1⟩ => thn (ho pins s1 σ H1 _ I1 q1) fun u s2 ⟨x, H2, I2, rx, q2⟩ => thn (hi pins s2 σ H2 _ I2 q2) fun iv s3 ⟨y, H3, I3, ry, a, H4, ex, g, q3⟩ => ?_) hs
  subst ex
  obtain rfl : u = Value.ref a := rx
  exact d_setItem hu I3 g ry rv fun s4 I4 => ⟨σ, H4, I4, q3⟩
end


/-! ### displays -/
theorem dk_empty {P : Program} {w : World} {H : Hp} (h : Heap) (hb : sysModules < h.objs.size) : ObjOk P w H (h.push { cls := .type "dict", data := .dict #[] }) h.objs.size (.dK []) :=
  ⟨Nat.zero_le _, beq_eq_false_iff_ne.mpr (Ne.symm (Nat.ne_of_lt hb)), [], .nil, Heap.DictOf.new h⟩
/-- {}, to be a dict of the kind that is wanted -/
def tDNewK : TE := fun _ H Q => ∀ p, H p = none → Q (.ref p) (upd H p (.dK []))
section
variable {X : Cx} {pos : Pos}
theorem pe_dnewK : PE X (.Dict [] [] pos) tDNewK := fun pins s σ H Q I h =>
  wpAny_Dict_empty ⟨.ref s.heap.objs.size, _, I.laid (a := s.heap.objs.size) (o := .dK []) (t' := s.toks) (fun _ _ q => Heap.get?_push_of_some _ q) (Nat.le_refl _) (dk_empty s.heap I.big), rfl, h _ (I.hok.fresh (Nat.le_refl _))⟩
end

/-! ### methods -/
/-- a method call o.m(e) of a built-in, with one argument: what must be seen of the text -/
structure M1 (X : Cx) (o : Expr) (m : Str) (apos : Pos) (e : Expr) (cpos : Pos) : Prop where
  base : attributeBase o m X.env (eval o X.env) = eval o X.env
  few : ((backTo cpos (starEach [e] X.env)).all (fun x => !x.1) && (backToKw cpos (keywordEach [] X.env)).all (fun x => x.1.isSome)
    && decide (([e] : List Expr).length + ([] : List Keyword).length + (if ([] : List Keyword).isEmpty then 0 else 1) < 30)) = true
  line : (apos.endLine == cpos.line) = true
  trees : backTo cpos (starEach [e] X.env) = [(false, eval e X.env)]
structure M2 (X : Cx) (o : Expr) (m : Str) (apos : Pos) (e f : Expr) (cpos : Pos) : Prop where
  base : attributeBase o m X.env (eval o X.env) = eval o X.env
  few : ((backTo cpos (starEach [e, f] X.env)).all (fun x => !x.1) && (backToKw cpos (keywordEach [] X.env)).all (fun x => x.1.isSome)
    && decide (([e, f] : List Expr).length + ([] : List Keyword).length + (if ([] : List Keyword).isEmpty then 0 else 1) < 30)) = true
  line : (apos.endLine == cpos.line) = true
  trees : backTo cpos (starEach [e, f] X.env) = [(false, eval e X.env), (false, eval f X.env)]

/-- a is a dict, whatever its keys -/
def IsD (H : Hp) (a : Addr) : Prop := (∃ kvs, Rd H a (.dK kvs)) ∨ ∃ kvs, Rd H a (.dT kvs)
theorem isD_at {X : Cx} {pins : List (Addr × Obj)} {σ : St} {H : Hp} {s : Shared} {a : Addr} (I : Inv X pins σ H s) (d : IsD H a) :
    s.TypeIs (.ref a) "dict" ∧ (∀ b, Value.ref a = .ref b → ∃ ob, s.heap.get? b = some ob ∧ ob.dict = none) ∧ (a == sysModules) = false := by
  rcases d with ⟨kvs, e⟩ | ⟨kvs, e⟩
  · obtain ⟨_, hd, vs, _, dd⟩ := dk_rd I.hok e
    refine ⟨dd.typeIs, fun b q => ?_, hd⟩
    cases q
    obtain ⟨ob, _, _, h1, h2, _⟩ := dd
    exact ⟨ob, h1, h2.2.1⟩
  · obtain ⟨_, hd, xs, _, dd⟩ := dt_rd I.hok e
    refine ⟨dd.typeIs, fun b q => ?_, hd⟩
    cases q
    obtain ⟨ob, _, _, h1, h2, _⟩ := dd
    exact ⟨ob, h1, h2.2.1⟩

section
variable {X : Cx} {pins : List (Addr × Obj)} {σ : St} {H : Hp} {s : Shared} {a : Addr} {y d : V} {u r : Value} {o : Option V} {A : Around} {E : Value → Shared → Prop}
/-- d.get(y, x) -/
theorem d_get2 {Q : Value → Shared → Prop} (hu : A.units + 1 < cLine) (I : Inv X pins σ H s) (g : DGet H a y o) (ry : RelV y u) (rd : RelV d r) (h : ∀ w' s', Inv X pins σ H s' → RelV (o.getD d) w' → Q w' s') :
    wpAny (model X.prog X.w) A (call (.builtin "dict.get") [.ref a, u, r]) Q E s := by
  rcases g with ⟨kvs, k, e, ey, l⟩ | ⟨kvs, k, b, e, ey, eb, l⟩
  · subst ey
    obtain ⟨z, hd, vs, rel, dd⟩ := dk_rd I.hok e
    refine call_meetsIn PySem.F.slot_dict_get dd.typeIs PySem.F.entry_dict_get (PySem.F.args_dict_get_3 _ _ _) (meets_dict_get_default (mixKind X.prog X.w) a (kV_is ry) hd r) ⟨_, dd.mapOf, h _ _ (I.tok _) ?_⟩
    rw [l]
    exact (rel.val k).getD rd
  · subst ey
    cases (show u = Value.ref b from ry)
    obtain ⟨z, hd, xs, rel, dd⟩ := dt_rd I.hok e
    refine call_meetsIn PySem.F.slot_dict_get dd.typeIs PySem.F.entry_dict_get (PySem.F.args_dict_get_3 _ _ _) (meetsH_dict_get_default (tupleKind (mixKind X.prog X.w)) a b hd r) ⟨tupleKind_room_in1 hu, k, xs, key_of I.hok eb, dd, h _ _ (I.tok _) ?_⟩
    rw [l]
    exact (rel.val k).getD rd
end

def tDGet2 (td ty tx : TE) : TE := fun σ H Q => td σ H fun x H1 => ∃ a, x = .ref a ∧ IsD H1 a ∧ ty σ H1 fun y H2 => tx σ H2 fun z H3 => ∃ o, DGet H3 a y o ∧ Q (o.getD z) H3
section
variable {X : Cx} {o e f : Expr} {apos cpos : Pos} {td ty tx : TE}
theorem pe_dget2 (hu : X.A.units + 1 < cLine) (ho : PE X o td) (he : PE X e ty) (hf : PE X f tx) (m : M2 X o "get" apos e f cpos) : PE X (.Call (.Attribute o "get" apos) [e, f] [] cpos) (tDGet2 td ty tx) := by
  intro pins s σ H Q I h
  refine wpAny_Call_method m.base m.few m.line PySem.F.plainAttrs_dict PySem.F.slot_dict_get PySem.F.type_dict_get (thn (ho pins s σ H _ I h) fun u s1 ⟨x, H1, I1, rx, a, ex, d, q1⟩ => ?_)
  subst ex
  obtain rfl : u = Value.ref a := rx
  obtain ⟨t1, t2, _⟩ := isD_at I1 d
  refine ⟨t1, t2, ?_⟩
  rw [m.trees]
  refine Calls.callWith_builtin rfl (Calls.evalArgs_plain (Calls.spliced_cons (thn (he pins s1 σ H1 _ I1 q1) fun iv s2 ⟨y, H2, I2, ry, q2⟩ =>
    Calls.spliced_cons (thn (hf pins s2 σ H2 _ I2 q2) fun fv s3 ⟨z, H3, I3, rz, ov, g, q3⟩ => Calls.spliced_nil ?_))))
  exact d_get2 hu I3 g ry rz fun w' s4 I4 rw' => ⟨_, H3, I4, rw', q3⟩
end

/-! ### dict(d): a copy -/
section
variable {X : Cx} {pins : List (Addr × Obj)} {σ : St} {H : Hp} {s : Shared} {a : Addr} {kvs : List (Key × V)} {A : Around} {E : Value → Shared → Prop}
end


section
variable {X : Cx} {pins : List (Addr × Obj)} {σ : St} {H : Hp} {s : Shared} {a : Addr} {y : V} {u : Value} {A : Around} {E : Value → Shared → Prop}
end
end L2
namespace L2
open PySem PySem.Spec PyProof.Rows
/-! ### a dict's pairs: keys that differ -/
section
variable {κ : Type} [DecidableEq κ]
theorem valV_not {kvs : List (κ × V)} {k : κ} (h : valV kvs k = none) : ¬ k ∈ kvs.map (·.1) := by
  intro m
  obtain ⟨p, hp, e⟩ := List.mem_map.mp m
  have q : (kvs.any fun kv => decide (kv.1 = k)) = true := List.any_eq_true.mpr ⟨p, hp, decide_eq_true e⟩
  rw [valV_any, h] at q
  exact absurd q (by simp)
theorem valV_in {kvs : List (κ × V)} {k : κ} {v : V} (h : valV kvs k = some v) : k ∈ kvs.map (·.1) := by
  have q : (kvs.any fun kv => decide (kv.1 = k)) = true := by
    rw [valV_any, h]
    all_goals rfl
  obtain ⟨p, hp, e⟩ := List.any_eq_true.mp q
  exact List.mem_map.mpr ⟨p, hp, of_decide_eq_true e⟩
theorem nd_snoc : ∀ {l : List κ} {k : κ}, l.Nodup → ¬ k ∈ l → (l ++ [k]).Nodup
  | [], k, _, _ => by simp
  | a :: r, k, h, hk => by
    obtain ⟨h1, h2⟩ := List.nodup_cons.mp h
    show (a :: (r ++ [k])).Nodup
    refine List.nodup_cons.mpr ⟨fun m => ?_, nd_snoc h2 fun m => hk (List.mem_cons.mpr (Or.inr m))⟩
    rcases List.mem_append.mp m with q | q
    · exact h1 q
    · exact hk (List.mem_cons.mpr (Or.inl (List.mem_singleton.mp q).symm))
end
end L2
end
section
/-! sorted(d) of a dict with int keys. -/
namespace L2
open PySem PySem.Spec PyProof.Rows
set_option maxHeartbeats 4000000
set_option maxRecDepth 100000
set_option Elab.async false
set_option linter.unusedVariables false
section
variable {X : Cx}
def rSortD : List V → Hp → VK → Prop := fun xs H Q => ∃ (a : Addr) (ks : List Int) (kvs : List (Key × V)), xs = [.ref a] ∧ H a = some (.dK kvs) ∧ kvs.map (·.1) = ks.map Sum.inl ∧ ks.length < 64 ∧
  ∀ (ns : List Int) (l : Addr), ns.Perm ks → ns.Pairwise (· ≤ ·) → H l = none → Q (.ref l) (upd H l (.lst (ns.map V.int)))
theorem call_sortD (hc : X.calm = true) : CallR X (.builtin "sorted") rSortD := by
  intro pins s σ H xs us Q I r h
  obtain ⟨a, ks, kvs, rfl, ha, hk, h64, q⟩ := h
  obtain ⟨u, rfl, rx⟩ := vals1 r
  cases (show u = Value.ref a from rx)
  obtain ⟨hz, hS, vs, rkv, m⟩ : kvs.length ≤ sizeLine ∧ (a == sysModules) = false ∧ ∃ vs, KV kvs vs ∧ s.heap.DictOf (mixKind X.prog X.w) a vs := I.hok a _ ha
  obtain ⟨ep, da⟩ := m.dictAt
  have hlen : kvs.length = vs.length := KV.length rkv
  refine Calls.call_function_entry kind_sorted plain_sorted entry_sorted (args_sorted1 _) ?_
  unfold Builtin.«sorted»
  refine wpAny_bind (m := checkCount "sorted" 1 1 _) (wpAny_pure ?_)
  refine wpAny_bind (PySem.W.kdu_collect (A := X.A.in1) (PySem.W.kdl_dict (kvs := vs) (ep := ep) hS) (I.ok.hd hc) da (by omega) fun h' tk acc hk' hacc => ?_)
  have I0 : Inv X pins σ H { s with heap := h', toks := tk } := I.kept hk'
  have hl : acc.toList.length = vs.length := by rw [Array.length_toList]; exact hacc.1
  have kk : vs.map (·.1) = ks.map Sum.inl := by rw [← KV.keys rkv]; exact hk
  have lk : vs.length = ks.length := by have := congrArg List.length kk; rw [List.length_map, List.length_map] at this; exact this
  have hI : IntsAre acc.toList ks := by
    refine intsAre_of (vals_of _ _ (by rw [hl]; exact lk) fun j u hj => ?_)
    obtain ⟨k, x, e1, e2⟩ := hacc.2 j u (by rw [← Array.getElem?_toList]; exact hj)
    have e3 : (vs.map (·.1))[j]? = some k := by rw [List.getElem?_map, e1]; rfl
    rw [kk, List.getElem?_map] at e3
    cases e4 : ks[j]? with
    | none => rw [e4] at e3; cases e3
    | some i =>
      rw [e4] at e3
      have e5 : k = Sum.inl i := by injection e3 with e3; exact e3.symm
      subst e5
      obtain ⟨t, e6⟩ := Value.isInt_shape (k := i) (v := u) e2
      exact ⟨t, i, rfl, e6⟩
  refine wpAny_bind (wpAny_newList ?_ (by rw [hl, ← hlen]; exact hz))
  have hoL : (h'.push (seqObj "list" acc.toList.toArray 0)).get? h'.objs.size = some (seqObj "list" acc.toList.toArray 0) := Heap.get?_push_size _ rfl
  refine wpAny_bind (wpAny_holding (wpAny_call_entry slot_list_sort ⟨_, hoL, rfl⟩ entry_list_sort (list_sort_tree (s := { s with heap := h'.push (seqObj "list" acc.toList.toArray 0), toks := tk }) hoL hI (by rw [hl, lk]; exact h64) fun out ns' a1 a2 a3 => ⟨_, rfl, ?_⟩) (args_list_sort _)))
  obtain ⟨e, he⟩ := sortedHeap_at (out := out) hoL
  have old : ∀ b o, h'.get? b = some o → (sortedHeap (h'.push (seqObj "list" acc.toList.toArray 0)) h'.objs.size acc.toList out).get? b = some o := fun b o eb => by
    have lt := Heap.lt_size eb
    rw [sortedHeap_old (h := h'.push (seqObj "list" acc.toList.toArray 0)) (b := b) (Nat.ne_of_lt lt) (by rw [Heap.size_push]; exact Nat.lt_succ_of_lt lt)]
    exact Heap.get?_push_of_some _ eb
  refine wpAny_pure ⟨_, rfl, .ref h'.objs.size, _, I0.laid (a := h'.objs.size) (t' := tk) (o := .lst (ns'.map V.int)) old (Nat.le_refl _) ?_, rfl, q ns' _ a2 a3 (I0.hok.fresh (Nat.le_refl _))⟩
  refine ⟨by rw [List.length_map, a2.length_eq, sizeLine_eq]; omega, out.toList, e, vals_ints a1, ?_⟩
  have e9 : out.toList.toArray = out := by simp
  rw [e9]
  exact he
end
end L2
end
section
/-! isinstance(x, (list, tuple)); zip of two tuples or two lists, whichever. -/
namespace L2
open PySem PySem.Spec PyProof.Rows
set_option maxHeartbeats 4000000
set_option maxRecDepth 100000
set_option Elab.async false
set_option linter.unusedVariables false
section
variable {X : Cx} {pins : List (Addr × Obj)} {σ : St} {H : Hp} {s : Shared} {A : Around} {E : Value → Shared → Prop} {Q : Value → Shared → Prop}
def seqT (T : String) : Bool := T == "list" || T == "tuple"
theorem isi_many {x : V} {u : Value} {T : String} {p : Addr} {its : List Value} {b : Bool} (I : Inv X pins σ H s) (rx : RelV x u) (hk : Kn H x T) (hp : IsTup s.heap p its.toArray) (e : PySem.W.kitAny X.K (.type T) its = some b)
    (h : ∀ tk, Q (.bool b) { s with toks := tk }) : wpAny (model X.prog X.w) A (call (.builtin "isinstance") [u, .ref p]) Q E s := by
  obtain ⟨⟨c, dd, da, sl⟩, ho, hc, n, hd⟩ := hp
  simp only at hc hd
  subst hc hd
  cases hk with
  | non => cases (show u = Value.none from rx); exact PySem.W.kia_tup PySem.W.kitx_none I.kIn True.intro ho e (fun z => nomatch z) h
  | bl y => cases (show u = Value.bool y from rx); exact PySem.W.kia_tup PySem.W.kitx_bool I.kIn True.intro ho e (fun z => nomatch z) h
  | int i => obtain ⟨t, q⟩ := (show ∃ t, u = Value.int i t from rx); cases q; exact PySem.W.kia_tup PySem.W.kitx_int I.kIn True.intro ho e (fun z => nomatch z) h
  | str y => obtain ⟨t, q⟩ := (show ∃ t, u = Value.str y t from rx); cases q; exact PySem.W.kia_tup PySem.W.kitx_str I.kIn True.intro ho e (fun z => nomatch z) h
  | @lst a xs ea =>
    cases (show u = Value.ref a from rx)
    obtain ⟨_, _, n, _, h1⟩ := (show ObjOk X.prog X.w H s.heap a (.lst xs) from I.hok a _ ea)
    exact PySem.W.kia_tup PySem.W.kitx_list I.kIn ⟨_, h1, rfl⟩ ho e (fun z => nomatch z) h
  | @tup a xs ea =>
    cases (show u = Value.ref a from rx)
    obtain ⟨_, _, _, o, h1, hc, _⟩ := (show ObjOk X.prog X.w H s.heap a (.tup xs) from I.hok a _ ea)
    exact PySem.W.kia_tup PySem.W.kitx_tuple I.kIn ⟨o, h1, hc⟩ ho e (fun z => nomatch z) h
  | @dK a kvs ea =>
    cases (show u = Value.ref a from rx)
    obtain ⟨_, _, _, _, m⟩ := (show ObjOk X.prog X.w H s.heap a (.dK kvs) from I.hok a _ ea)
    exact PySem.W.kia_tup PySem.W.kitx_dict I.kIn m.typeIs ho e (fun z => nomatch z) h
theorem any_seq {K : PySem.W.Frag} {H : Hp} {x : V} {T : String} (h : Kn H x T) : PySem.W.kitAny K (.type T) [.type "list", .type "tuple"] = some (seqT T) ∧ PySem.W.kitAny K (.type T) [.type "tuple", .type "list"] = some (seqT T) := by
  cases h <;> exact ⟨rfl, rfl⟩
end
section
variable {X : Cx}
theorem call_isiT : CallR X (.builtin "isinstance") (fun xs H Q => ∃ x T p, xs = [x, .ref p] ∧ Kn H x T ∧ (H p = some (.tup [.ty "list", .ty "tuple"]) ∨ H p = some (.tup [.ty "tuple", .ty "list"])) ∧ Q (.bl (seqT T)) H) := by
  intro pins s σ H xs us Q I r h
  obtain ⟨x, T, p, rfl, hk, hp, q⟩ := h
  obtain ⟨u, c, rfl, rx, rc⟩ := vals2 r
  cases (show c = Value.ref p from rc)
  have two : ∀ (U W : String), H p = some (.tup [.ty U, .ty W]) → IsTup s.heap p [Value.type U, Value.type W].toArray := fun U W e => by
    obtain ⟨_, its, rv, ht⟩ := (show ObjOk X.prog X.w H s.heap p (.tup [.ty U, .ty W]) from I.hok p _ e)
    obtain ⟨a, b, rfl, ra, rb⟩ := vals2 rv
    cases (show a = Value.type U from ra)
    cases (show b = Value.type W from rb)
    exact ht
  rcases hp with hp | hp
  · exact isi_many I rx hk (two _ _ hp) (any_seq hk).1 fun tk => ⟨.bl (seqT T), H, I.tok tk, rfl, q⟩
  · exact isi_many I rx hk (two _ _ hp) (any_seq hk).2 fun tk => ⟨.bl (seqT T), H, I.tok tk, rfl, q⟩
def iZipE (K : PySem.W.Frag) (ta : TA) : TI := fun σ H R => ta σ H fun vs H1 => ∃ t l m xs ys, vs = [.ref l, .ref m] ∧ SqK t K H1 l xs ∧ SqK t K H1 m ys ∧ R (Itz t K l m) H1
theorem pi_zipE {es : List Expr} {k0 : Nat} {tp : Pos} {a b : Expr} {ta : TA} {p pos : Pos} (hg : Gl X "zip") (hm : X.mg "zip" = none) (ha : PA X [a, b] ta) (hs : starEach [a, b] X.env = [(false, eval a X.env), (false, eval b X.env)] := by rfl) (hs2 : starEach [b] X.env = [(false, eval b X.env)] := by rfl) :
    PI X (.Tuple es k0 tp) (.Call (.Name "zip" p) [a, b] [] pos) (iZipE X.K ta) := by
  intro pins s σ H R I h
  refine Call_ (ld_blt I hg hm boot_zip (PyProof.Rows.callWith_type1 (thn (ha pos pins s σ H _ I h) fun us s1 ⟨vs, H1, I1, r1, q1⟩ => ?_) (by rw [hs, hs2]) (by rw [hs2]; rfl)))
  obtain ⟨t, l, m, xs, ys, e, hl, hm', q⟩ := q1
  subst e
  obtain ⟨u, u', rfl, ru, ru'⟩ := vals2 r1
  cases (show u = Value.ref l from ru)
  cases (show u' = Value.ref m from ru')
  obtain ⟨its, _, ⟨ol, eol, _⟩, _⟩ := I1.sqk hl
  obtain ⟨jts, _, ⟨om, eom, _⟩, _⟩ := I1.sqk hm'
  have ll : l < s1.heap.objs.size := Heap.lt_size eol
  have lm : m < s1.heap.objs.size := Heap.lt_size eom
  have fin : ∀ h' : Heap, IsZip h' (s1.heap.objs.size + 4) (s1.heap.objs.size + 2) (s1.heap.objs.size + 3) .none → IsPair h' (s1.heap.objs.size + 2) (.ref s1.heap.objs.size) (.ref (s1.heap.objs.size + 1)) →
      IsPair h' (s1.heap.objs.size + 3) .none .none → ItAt t s1.heap.objs.size l 0 h' → ItAt t (s1.heap.objs.size + 1) m 0 h' → (∀ c o, s1.heap.get? c = some o → h'.get? c = some o) →
      wpAny (model X.prog X.w) X.A (pyIter (.ref (s1.heap.objs.size + 4))) (PIE X pins σ (.Tuple es k0 tp) R) X.xe { s1 with heap := h' } := fun h' z1 z2 z3 z4 z5 kp => by
    have I2 : Inv X pins σ H1 { s1 with heap := h' } := I1.kept (t' := s1.toks) kp
    refine wpAny_pyIter_zip z1 ⟨s1.heap.objs.size + 4, [s1.heap.objs.size + 4, s1.heap.objs.size + 2, s1.heap.objs.size + 3, s1.heap.objs.size, s1.heap.objs.size + 1], _, _, H1, rfl, I2,
      turn_zip (t := t) (l := l) (m := m) (apart_nat _ (a := 2) (b := 4) (by decide)) (apart_nat _ (a := 3) (b := 4) (by decide)) (apart_nat _ (a := 0) (b := 4) (by decide)) (apart_nat _ (a := 1) (b := 4) (by decide)) (apart_nat _ (a := 2) (b := 3) (by decide)) (apart_nat _ (a := 2) (b := 0) (by decide)) (apart_nat _ (a := 2) (b := 1) (by decide)) (apart_nat _ (a := 3) (b := 0) (by decide)) (apart_nat _ (a := 3) (b := 1) (by decide)) (apart_nat _ (a := 0) (b := 1) (by decide)) (fun z => ?_) (fun z => ?_), ⟨z1, z2, ⟨_, _, z3⟩, z4, z5⟩, fun c hc => ?_, q⟩
    · simp only [List.mem_cons, List.not_mem_nil, or_false] at z; exact not_fresh5 ll z
    · simp only [List.mem_cons, List.not_mem_nil, or_false] at z; exact not_fresh5 lm z
    · have hcs : s1.heap.objs.size ≤ c := by simp only [List.mem_cons, List.not_mem_nil, or_false] at hc; exact fresh5 hc
      exact I1.fpOk hcs (I1.hok.fresh hcs)
  cases t
  · obtain ⟨its, _, pl, _⟩ := I1.list (show SqL X.K H1 l xs from hl)
    obtain ⟨jts, _, pm, _⟩ := I1.list (show SqL X.K H1 m ys from hm')
    exact call_zip_2 pl.isList pm.isList fun h' z1 z2 z3 z4 z5 _ kp => fin h' z1 z2 z3 z4 z5 kp
  · obtain ⟨its, _, pl, _⟩ := I1.tuple (show SqT X.K H1 l xs from hl)
    obtain ⟨jts, _, pm, _⟩ := I1.tuple (show SqT X.K H1 m ys from hm')
    exact zip_tups pl pm fun h' z1 z2 z3 z4 z5 kp => fin h' z1 z2 z3 z4 z5 kp
theorem items_zipL {K : PySem.W.Frag} {a b : Addr} {xs ys : List V} {H1 : Hp} (h : H1 a = some (.lst xs)) (h' : H1 b = some (.lst ys)) (i : Nat) (H : Hp) (s : Same H1 H) :
    (i < min xs.length ys.length → (Itz false K a b).go i H ∧ ∀ v H2, (Itz false K a b).yld i H v H2 → Same H H2 ∧ ∃ p x y, v = .ref p ∧ H2 p = some (.tup [x, y]) ∧ xs[i]? = some x ∧ ys[i]? = some y) ∧ (min xs.length ys.length ≤ i → (Itz false K a b).stop i H) := by
  have q : SqK false K H a xs := SqL.of (s _ _ h)
  have q' : SqK false K H b ys := SqL.of (s _ _ h')
  refine ⟨fun hi => ⟨⟨xs, ys, xs[i]'(by omega), ys[i]'(by omega), q, q', List.getElem?_eq_getElem (by omega), List.getElem?_eq_getElem (by omega)⟩, fun v H2 ⟨p, x, y, e1, e2, e3, e4, e5⟩ => ?_⟩, fun hi => ⟨xs, ys, q, q', ?_⟩⟩
  · subst e3
    exact ⟨same_new e2 _, p, x, y, e1, upd_same, e4 xs q, e5 ys q'⟩
  · by_cases hx : xs.length ≤ i
    · exact .inl (List.getElem?_eq_none hx)
    · exact .inr (List.getElem?_eq_none (by omega))
/-- two things that are the same, n deep -/
def Sm (H : Hp) : Nat → V → V → Prop
  | 0, x, y => (x = y ∧ ((∃ i, x = .int i) ∨ (∃ b, x = .bl b) ∨ (∃ z, x = .str z) ∨ x = .non))
  | n + 1, x, y => (x = y ∧ ((∃ i, x = .int i) ∨ (∃ b, x = .bl b) ∨ (∃ z, x = .str z) ∨ x = .non)) ∨
    ∃ (a b : Addr) (xs ys : List V), x = .ref a ∧ y = .ref b ∧ ((H a = some (.tup xs) ∧ H b = some (.tup ys)) ∨ (H a = some (.lst xs) ∧ H b = some (.lst ys))) ∧ xs.length = ys.length ∧ xs.length ≤ 1000 ∧
      ∀ (i : Nat) (u v : V), xs[i]? = some u → ys[i]? = some v → Sm H n u v
theorem Sm.same {H H' : Hp} (s : Same H H') : ∀ {n : Nat} {x y : V}, Sm H n x y → Sm H' n x y
  | 0, _, _, h => h
  | n + 1, x, y, h => by
    rcases h with h | ⟨a, b, xs, ys, e1, e2, e3, e4, e5, e6⟩
    · exact .inl h
    · refine .inr ⟨a, b, xs, ys, e1, e2, ?_, e4, e5, fun i u v hu hv => (e6 i u v hu hv).same s⟩
      rcases e3 with ⟨p, q⟩ | ⟨p, q⟩
      · exact .inl ⟨s _ _ p, s _ _ q⟩
      · exact .inr ⟨s _ _ p, s _ _ q⟩
end
end L2
end
section
/-! dict(l) of a list of pairs. -/
namespace L2
open PySem PySem.Spec PyProof.Rows
set_option maxHeartbeats 4000000
set_option maxRecDepth 100000
set_option Elab.async false
set_option linter.unusedVariables false
theorem keys_none : typeLookup (.type "list") "keys" = pure none := by rw [typeLookup_type, builtinLookup_eq_fast]; kernel_rfl
/-- a list has no attribute `keys` -/
theorem no_keys {prog : Program} {w : World} {A : Around} {E : Value → Shared → Prop} {s : Shared} {a : Addr} {xs : Array Value} {n : Nat} {sl : Array (Option Value)} {Q : Option Value → Shared → Prop}
    (hx : s.heap.get? a = some { cls := .type "list", dict := none, data := .seq xs n, slots := sl }) (hA : A.handled = none)
    (q : ∀ h' tk, (∀ b o, s.heap.get? b = some o → h'.get? b = some o) → Q none { s with heap := h', toks := tk }) : wpAny (model prog w) A (getAttr? (.ref a) "keys") Q E s := by
  obtain ⟨hp, g, d, tk, os⟩ := s
  have look := F.slot_list_getattribute.lookup
  have bound := F.slot_list_getattribute.bind (.ref a)
  have plain := am_list_getattr_none
  have under := sub_AttributeError
  simp only at hx
  have ask : ∀ {R : Value → Shared → Prop} {F : Value → Shared → Prop}, (∀ (h' : Heap) (tk' : Nat) (e : Addr), Heap.NewAttrErr hp h' e (.ref a) "keys" → F (.ref e) ⟨h', g, d, tk', os⟩) →
      wpAny (model prog w) A (call (.builtin "list.__getattribute__") ([.ref a] ++ [.str (Str.ofString "keys") tk])) R F ⟨hp, g, d, tk + 1, os⟩ := fun f =>
    call_meets F.slot_list_getattribute ⟨_, hx, rfl⟩ am_entry_list_getattribute (F.args_list_getattribute_2 _ _) (meets_getattribute_miss_list a xs n sl "keys" _ keys_none (by decide)) ⟨hx, hA, fun h' tk' e made => f h' tk' e made⟩
  wp_walk using ask
  intro h' tk' e made
  obtain ⟨t', u', he⟩ := made.there
  have kept := q h' tk' made.keeps
  wp_walk
  exact kept
theorem dl_entry : entryFor table "dict.update.loop" = some Builtin.«dict.update.loop» := entryFor_of_tree (by kernel_rfl)
theorem dl_plain : plainId "dict.update.loop" = true := by decide +kernel
section
variable {prog : Program} {w : World} {A : Around} {R : Result → Shared → Prop}
/-- how far the loop has come -/
structure DL (prog : Program) (w : World) (l it d : Addr) (vs : List Value) (kvs : List (Key × Value)) (i : Nat) (h : Heap) : Prop where
  po : h.IsListIter it l i
  ls : h.IsList l vs.toArray
  dt : h.DictOf (mixKind prog w) d (kvs.take i)
  pr : ∀ (j : Nat) (v : Value), vs[j]? = some v → ∃ (p : Addr) (k : Key) (key x : Value), v = Value.ref p ∧ IsTup h p #[key, x] ∧ kvs[j]? = some (k, x) ∧ (mixKind prog w).is k key = true
theorem cls_ne {h : Heap} {a b : Addr} {o o' : Obj} {T U : String} (e : h.get? a = some o) (e' : h.get? b = some o') (c : o.cls = .type T) (c' : o'.cls = .type U) (n : T ≠ U) : a ≠ b := fun z => by
  rw [z, e'] at e
  cases e
  rw [c] at c'
  injection c' with z
  exact n z
theorem DL.ne {l it d : Addr} {vs : List Value} {kvs : List (Key × Value)} {i : Nat} {h : Heap} (D : DL prog w l it d vs kvs i h) : d ≠ it := by
  obtain ⟨o, es, ep, ho, ⟨hc, _⟩, _⟩ := D.dt
  obtain ⟨o', ho', hc', _⟩ := D.po
  exact cls_ne ho ho' hc hc' (by decide)
theorem tup_past {d : Addr} {h h' : Heap} {p : Addr} {xs : Array Value} {kvs : List (Key × Value)} (D : h.DictOf (mixKind prog w) d kvs) (sb : Heap.SameBut d h h') (t : IsTup h p xs) : IsTup h' p xs := by
  obtain ⟨o, ho, hc, r⟩ := t
  obtain ⟨o', es, ep, ho', ⟨hc', _⟩, _⟩ := D
  exact ⟨o, sb.extBut _ _ (cls_ne ho ho' hc hc' (by decide)) ho, hc, r⟩
theorem DL.dictAt {l it d : Addr} {vs : List Value} {kvs : List (Key × Value)} {i : Nat} {h h' : Heap} (D : DL prog w l it d vs kvs i h) (sb : Heap.SameBut it h h') : h'.DictOf (mixKind prog w) d (kvs.take i) := by
  have ne := D.ne
  obtain ⟨o, es, ep, ho, r⟩ := D.dt
  exact ⟨o, es, ep, sb.extBut _ _ ne ho, r⟩
end
end L2
end
section
namespace L2
open PySem PySem.Spec PyProof.Rows
set_option maxHeartbeats 4000000
set_option maxRecDepth 100000
set_option Elab.async false
set_option linter.unusedVariables false
section
variable {prog : Program} {w : World} {A : Around} {s : Shared} {R : Result → Shared → Prop}
/-- dict.__init__ of a new dict and a list: on to the loop over the list -/
theorem di_list {d l : Addr} {xs : Array Value} {n : Nat} (hA : A.handled = none) (hd : s.TypeIs (.ref d) "dict") (hl : s.heap.get? l = some { cls := .type "list", dict := none, data := .seq xs n, slots := #[] })
    (next : ∀ (h1 : Heap) (tk : Nat), (∀ b o, s.heap.get? b = some o → h1.get? b = some o) →
      codeAny (model prog w) A (.builtin "dict.update.loop" ⟨[.ref d, .ref h1.objs.size, rawInt (0 : Nat), .none], []⟩) R { s with heap := h1.push { cls := .type "list_iterator", data := .fields #[.ref l, .int 0 0] }, toks := tk }) :
    wpAny (model prog w) A.in1 (Builtin.«dict.__init__» ⟨[.ref d, .ref l], []⟩) (fun fin s' => match fin with | .done f => R (.ok f) s' | .again c' => c'.quiet = true ∧ codeAny (model prog w) A c' R s') (fun e s' => R (.error e) s') s := by
  have hT : s.TypeIs (.ref l) "list" := ⟨_, hl, rfl⟩
  wp_walk using wpAny_notOrdered_dict hd, no_keys (A := A.in1) hl hA
  intro h1 tk kp
  have hl1 : h1.IsList l xs := ⟨_, kp _ _ hl, rfl, n, rfl⟩
  have go := next h1 tk kp
  wp_walk using wpAny_pyIter_list hl1
  exact ⟨plainId_quiet dl_plain _, go⟩
end
section
variable {X : Cx}
end
end L2
end
section
/-! Ball by ball: each to the next box that is empty. -/
namespace BB
/-- the first place from x on that is none of R's -/
def nx : Int → List Int → Int
  | x, [] => x
  | x, q :: R => if q < x then nx x R else if q = x then nx (x + 1) R else x
theorem nx_past {x q : Int} {R : List Int} (h : q < x) : nx x (q :: R) = nx x R := by
  show (if q < x then nx x R else _) = _
  rw [if_pos h]
theorem nx_ge : ∀ (R : List Int) (x : Int), x ≤ nx x R
  | [], x => Int.le_refl x
  | q :: R, x => by
    unfold nx
    split
    · exact nx_ge R x
    · split
      · have := nx_ge R (x + 1); omega
      · exact Int.le_refl x
theorem nx_not : ∀ (R : List Int) (x : Int), R.Pairwise (· < ·) → nx x R ∉ R
  | [], _, _ => by simp
  | q :: R, x, up => by
    obtain ⟨u1, u2⟩ := List.pairwise_cons.mp up
    unfold nx
    split
    · intro z
      rcases List.mem_cons.mp z with z | z
      · have := nx_ge R x; omega
      · exact nx_not R x u2 z
    · split
      · intro z
        rcases List.mem_cons.mp z with z | z
        · have := nx_ge R (x + 1); omega
        · exact nx_not R (x + 1) u2 z
      · intro z
        rcases List.mem_cons.mp z with z | z
        · omega
        · have := u1 x z; omega
theorem nx_mid : ∀ (R : List Int) (x y : Int), x ≤ y → y < nx x R → y ∈ R
  | [], x, y, h1, h2 => by unfold nx at h2; omega
  | q :: R, x, y, h1, h2 => by
    unfold nx at h2
    split at h2
    · exact List.mem_cons_of_mem _ (nx_mid R x y h1 h2)
    · split at h2
      · by_cases e : y = q
        · rw [e]; exact List.mem_cons_self ..
        · exact List.mem_cons_of_mem _ (nx_mid R (x + 1) y (by omega) h2)
      · omega
/-- the first n places from b on that are none of R's -/
def emp : Nat → Int → List Int → List Int
  | 0, _, _ => []
  | n + 1, b, R => nx b R :: emp n (nx b R + 1) R
/-- and the one behind them -/
def gy : Nat → Int → List Int → Int
  | 0, b, R => nx b R
  | n + 1, b, R => gy n (nx b R + 1) R
theorem emp_gy : ∀ (n : Nat) (b : Int) (R : List Int), emp (n + 1) b R = emp n b R ++ [gy n b R]
  | 0, _, _ => rfl
  | n + 1, b, R => by
    show nx b R :: emp (n + 1) (nx b R + 1) R = nx b R :: (emp n (nx b R + 1) R ++ [gy n (nx b R + 1) R])
    rw [emp_gy n]
theorem gy_ge : ∀ (n : Nat) (b : Int) (R : List Int), b ≤ gy n b R
  | 0, b, R => nx_ge R b
  | n + 1, b, R => by
    have := gy_ge n (nx b R + 1) R
    have := nx_ge R b
    show b ≤ gy n (nx b R + 1) R
    omega
theorem gy_not : ∀ (n : Nat) (b : Int) (R : List Int), R.Pairwise (· < ·) → gy n b R ∉ R
  | 0, b, R, up => nx_not R b up
  | n + 1, b, R, up => gy_not n _ R up
theorem emp_lt : ∀ (n : Nat) (b : Int) (R : List Int) (x : Int), x ∈ emp n b R → b ≤ x ∧ x < gy n b R
  | 0, _, _, x, h => by cases h
  | n + 1, b, R, x, h => by
    have g := gy_ge n (nx b R + 1) R
    have e := nx_ge R b
    rcases List.mem_cons.mp (show x ∈ nx b R :: emp n (nx b R + 1) R from h) with rfl | h
    · exact ⟨e, show nx b R < gy n (nx b R + 1) R by omega⟩
    · have := emp_lt n _ R x h
      exact ⟨by omega, this.2⟩
theorem gy_mid : ∀ (n : Nat) (b : Int) (R : List Int) (z : Int), b ≤ z → z < gy n b R → z ∈ R ∨ z ∈ emp n b R
  | 0, b, R, z, h1, h2 => .inl (nx_mid R b z h1 h2)
  | n + 1, b, R, z, h1, h2 => by
    by_cases c : z < nx b R
    · exact .inl (nx_mid R b z h1 c)
    · by_cases d : z = nx b R
      · exact .inr (by rw [d]; exact List.mem_cons_self ..)
      · rcases gy_mid n (nx b R + 1) R z (by omega) h2 with h | h
        · exact .inl h
        · exact .inr (List.mem_cons_of_mem _ h)
theorem emp_past {p : Int} {r : List Int} : ∀ (n : Nat) (z : Int), p < z → emp n z (p :: r) = emp n z r
  | 0, _, _ => rfl
  | n + 1, z, h => by
    show nx z (p :: r) :: emp n (nx z (p :: r) + 1) (p :: r) = nx z r :: emp n (nx z r + 1) r
    rw [nx_past h, emp_past n _ (by have := nx_ge r z; omega)]
theorem emp_on {p : Int} {r : List Int} : ∀ (n : Nat), emp n p (p :: r) = emp n (p + 1) r
  | 0 => rfl
  | n + 1 => by
    have e : nx p (p :: r) = nx (p + 1) r := by
      show (if p < p then nx p r else if p = p then nx (p + 1) r else p) = _
      rw [if_neg (by omega), if_pos rfl]
    show nx p (p :: r) :: emp n (nx p (p :: r) + 1) (p :: r) = nx (p + 1) r :: emp n (nx (p + 1) r + 1) r
    rw [e, emp_past n _ (by have := nx_ge r (p + 1); omega)]
theorem emp_cut {p : Int} {r : List Int} : ∀ (L : Nat) (box : Int), box ≤ p → emp L box (p :: r) = row box (min L (p - box).toNat) ++ emp (L - min L (p - box).toNat) (p + 1) r
  | 0, box, _ => by rw [Nat.zero_min]; rfl
  | L + 1, box, h => by
    by_cases c : box = p
    · subst c
      rw [Int.sub_self, show min (L + 1) (0 : Int).toNat = 0 from Nat.min_zero _, row_zero, List.nil_append, Nat.sub_zero]
      exact emp_on (L + 1)
    · have e : nx box (p :: r) = box := by
        unfold nx
        rw [if_neg (by omega), if_neg (by omega)]
      show nx box (p :: r) :: emp L (nx box (p :: r) + 1) (p :: r) = _
      rw [e, emp_cut L (box + 1) (by omega)]
      have em : min (L + 1) (p - box).toNat = min L (p - (box + 1)).toNat + 1 := by omega
      rw [em, row_succ, show L + 1 - (min L (p - (box + 1)).toNat + 1) = L - min L (p - (box + 1)).toNat by omega]
      rfl
theorem emp_nil : ∀ (L : Nat) (box : Int), emp L box [] = row box L
  | 0, _ => rfl
  | L + 1, box => by
    rw [row_succ]
    show box :: emp L (box + 1) [] = _
    rw [emp_nil L]
/-- two rising lists with the same members are one -/
theorem rise_ext : ∀ {x y : List Int}, x.Pairwise (· < ·) → y.Pairwise (· < ·) → (∀ a, a ∈ x ↔ a ∈ y) → x = y
  | [], [], _, _, _ => rfl
  | [], b :: y, _, _, h => absurd ((h b).mpr (List.mem_cons_self ..)) (by simp)
  | a :: x, [], _, _, h => absurd ((h a).mp (List.mem_cons_self ..)) (by simp)
  | a :: x, b :: y, hx, hy, h => by
    obtain ⟨x1, x2⟩ := List.pairwise_cons.mp hx
    obtain ⟨y1, y2⟩ := List.pairwise_cons.mp hy
    have e : a = b := by
      rcases List.mem_cons.mp ((h a).mp (List.mem_cons_self ..)) with z | z
      · exact z
      · rcases List.mem_cons.mp ((h b).mpr (List.mem_cons_self ..)) with w | w
        · exact w.symm
        · have := y1 a z; have := x1 b w; omega
    subst e
    congr 1
    refine rise_ext x2 y2 fun c => ⟨fun hc => ?_, fun hc => ?_⟩
    · rcases List.mem_cons.mp ((h c).mp (List.mem_cons_of_mem _ hc)) with z | z
      · have := x1 c hc; omega
      · exact z
    · rcases List.mem_cons.mp ((h c).mpr (List.mem_cons_of_mem _ hc)) with z | z
      · have := y1 c hc; omega
      · exact z
theorem mem_row {lo : Int} {n : Nat} {x : Int} (h : x ∈ row lo n) : lo ≤ x ∧ x < lo + (n : Int) := by
  unfold row at h
  obtain ⟨k, hk, rfl⟩ := List.mem_map.mp h
  have := List.mem_range.mp hk
  omega
/-- how the boxes stand while the balls R are still to go -/
structure At (z : Nat) (all R bh ks : List Int) (L : Nat) (box : Int) : Prop where
  eq : bh ++ sp z L box R = step z all
  cnt : bh.length + L + R.length = z
  lo : ∀ x ∈ bh, x < box
  ge : ∀ x ∈ R, box ≤ x
  up : R.Pairwise (· < ·)
  mem : ∀ x, x ∈ ks ↔ x ∈ bh ∨ x ∈ emp L box R ∨ x ∈ R
theorem At.go {z : Nat} {all r bh ks ks' : List Int} {L : Nat} {box p : Int} (h : At z all (p :: r) bh ks L box)
    (hk : ∀ x, x ∈ ks' ↔ (x ∈ ks ∧ x ≠ p) ∨ x = gy (L - min L (p - box).toNat) (p + 1) r) :
    ∃ bh' L', At z all r bh' ks' L' (p + 1) := by
  obtain ⟨u1, u2⟩ := List.pairwise_cons.mp h.up
  have hb := h.ge p (List.mem_cons_self ..)
  have hc := h.cnt
  rw [List.length_cons] at hc
  have lz : L - min L (p - box).toNat < z := by omega
  have e := h.eq
  unfold sp at e
  rw [if_pos lz, ← List.append_assoc] at e
  refine ⟨bh ++ row box (min L (p - box).toNat), L - min L (p - box).toNat + 1, e, ?_, fun x hx => ?_, fun x hx => ?_, u2, fun x => ?_⟩
  · rw [List.length_append, show (row box (min L (p - box).toNat)).length = min L (p - box).toNat by unfold row; rw [List.length_map, List.length_range]]
    omega
  · rcases List.mem_append.mp hx with w | w
    · have := h.lo x w; omega
    · have := mem_row w; omega
  · have := u1 x hx; omega
  · rw [hk x, h.mem x, emp_cut L box hb, emp_gy]
    have np : ∀ w, w ∈ bh ++ row box (min L (p - box).toNat) → w ≠ p := fun w hw => by
      rcases List.mem_append.mp hw with v | v
      · have := h.lo w v; omega
      · have := mem_row v; omega
    have ne : ∀ w, w ∈ emp (L - min L (p - box).toNat) (p + 1) r → w ≠ p := fun w hw => by have := emp_lt _ _ _ _ hw; omega
    have nr : ∀ w, w ∈ r → w ≠ p := fun w hw => by have := u1 w hw; omega
    simp only [List.mem_append, List.mem_cons, List.mem_singleton, List.not_mem_nil, or_false]
    constructor
    · rintro (⟨h1 | (h1 | h1) | h1 | h1, h2⟩ | h1)
      · exact .inl (.inl h1)
      · exact .inl (.inr h1)
      · exact .inr (.inl (.inl h1))
      · exact absurd h1 h2
      · exact .inr (.inr h1)
      · exact .inr (.inl (.inr h1))
    · rintro ((h1 | h1) | (h1 | h1) | h1)
      · exact .inl ⟨.inl h1, np x (List.mem_append_left _ h1)⟩
      · exact .inl ⟨.inr (.inl (.inl h1)), np x (List.mem_append_right _ h1)⟩
      · exact .inl ⟨.inr (.inl (.inr h1)), ne x h1⟩
      · exact .inr h1
      · exact .inl ⟨.inr (.inr (.inr h1)), nr x h1⟩
/-- from the ball's next box on, all is taken up to the one it goes to, and that is free -/
theorem At.here {z : Nat} {all r bh ks : List Int} {L : Nat} {box p : Int} (h : At z all (p :: r) bh ks L box) (x : Int) (hx : p + 1 ≤ x) (hx2 : x ≤ gy (L - min L (p - box).toNat) (p + 1) r) :
    x ∈ ks ↔ x < gy (L - min L (p - box).toNat) (p + 1) r := by
  obtain ⟨u1, u2⟩ := List.pairwise_cons.mp h.up
  have hb := h.ge p (List.mem_cons_self ..)
  rw [h.mem x, emp_cut L box hb]
  simp only [List.mem_append, List.mem_cons]
  constructor
  · rintro (h1 | (h1 | h1) | h1 | h1)
    · have := h.lo x h1; omega
    · have := mem_row h1; omega
    · exact (emp_lt _ _ _ _ h1).2
    · omega
    · by_cases c : x = gy (L - min L (p - box).toNat) (p + 1) r
      · exact absurd (by rw [← c]; exact h1) (gy_not (L - min L (p - box).toNat) (p + 1) r u2)
      · omega
  · intro h1
    rcases gy_mid _ _ _ _ hx h1 with w | w
    · exact .inr (.inr (.inr w))
    · exact .inr (.inl (.inr w))
theorem At.done {z : Nat} {all bh ks : List Int} {L : Nat} {box : Int} (h : At z all [] bh ks L box) (x : Int) : x ∈ ks ↔ x ∈ step z all := by
  rw [h.mem x, ← h.eq, emp_nil]
  show x ∈ bh ∨ x ∈ row box L ∨ x ∈ [] ↔ x ∈ bh ++ row box L
  rw [List.mem_append]
  constructor
  · rintro (h1 | h1 | h1)
    · exact .inl h1
    · exact .inr h1
    · cases h1
  · rintro (h1 | h1)
    · exact .inl h1
    · exact .inr (.inl h1)
theorem At.start {all ks : List Int} (up : all.Pairwise (· < ·)) (hk : ∀ x, x ∈ ks ↔ x ∈ all) : At all.length all all [] ks 0 (all.headD 0) := by
  refine ⟨rfl, by simp, fun x hx => (by cases hx), fun x hx => ?_, up, fun x => ?_⟩
  · cases all with
    | nil => cases hx
    | cons p r =>
      rcases List.mem_cons.mp hx with rfl | hx
      · exact Int.le_refl _
      · exact Int.le_of_lt ((List.pairwise_cons.mp up).1 x hx)
  · rw [hk x]
    show x ∈ all ↔ x ∈ [] ∨ x ∈ [] ∨ x ∈ all
    simp
end BB
end
section
/-! Comprehensions of new tuples; a dict's int keys. -/
namespace L2
open PySem PySem.Spec PyProof.Rows
set_option maxHeartbeats 4000000
set_option Elab.async false
set_option linter.unusedVariables false
structure Nb3 (mg : Str → Option Value) : Prop extends Nb2 mg where
  dict : mg "dict" = none
  sorted : mg "sorted" = none
theorem hu1 {k : Nat} {A : Around} (r : Room k A) : A.units + 1 < cLine := by have := r.units; omega
theorem comp_tups {J : It} {g : TG} {te : TE} {Q : VK} {D : Addr} {H1 : Hp} {σ0 : St} (n : Nat) (hn : n ≤ sizeLine) (f : Nat → List V) (Sg : St → Prop) (itm : Nat → Hp → V → Prop) (hD : H1 D = none) (s0 : Sg σ0)
    (items : ∀ i H, Same H1 H → (i < n → J.go i H ∧ ∀ x H2, J.yld i H x H2 → Same H H2 ∧ itm i H2 x) ∧ (n ≤ i → J.stop i H))
    (step : ∀ i x σ' H, i < n → Same H1 H → itm i H x → Sg σ' → ∀ R : St → V → Hp → Prop, (∀ σ3 p H5, Sg σ3 → Same H H5 → H5 p = some (.tup (f i)) → R σ3 (.ref p) H5) → g x σ' H fun σ3 H3 => te σ3 H3 (R σ3))
    (fin : ∀ H' ys, Same H1 H' → H' D = some (.lst ys) → ys.length = n → (∀ (j : Nat) (y : V), ys[j]? = some y → ∃ p, y = .ref p ∧ H' p = some (.tup (f j))) → Q (.ref D) H') :
    cmpW J g tYes te Q D σ0 H1 := by
  refine ⟨fun i m σ H => m = n - i ∧ i ≤ n ∧ Sg σ ∧ Same H1 H ∧ ∃ ys, H D = some (.lst ys) ∧ ys.length = i ∧ ∀ (j : Nat) (y : V), ys[j]? = some y → ∃ p, y = .ref p ∧ H p = some (.tup (f j)), ⟨n, by omega, Nat.zero_le _, s0, (Same.refl H1).upd_free hD _, [], upd_same, rfl, fun j y h => by cases h⟩, ?_⟩
  rintro i m σ H ⟨rfl, hi, hs, sm, ys, hd, hl, hy⟩
  by_cases hlt : i < n
  · obtain ⟨go, yl⟩ := (items i H sm).1 hlt
    refine .inr ⟨go, fun x H2 y => ?_⟩
    obtain ⟨s2, im⟩ := yl x H2 y
    have key := step i x σ H2 hlt (sm.trans s2) im hs (fun σ3 y H5 => ∃ ys, H5 D = some (.lst ys) ∧ ys.length < sizeLine ∧ ∃ m', m' < n - i ∧ (m' = n - (i + 1) ∧ i + 1 ≤ n ∧ Sg σ3 ∧ Same H1 (upd H5 D (.lst (ys ++ [y]))) ∧ ∃ zs, (upd H5 D (.lst (ys ++ [y]))) D = some (.lst zs) ∧ zs.length = i + 1 ∧ ∀ (j : Nat) (u : V), zs[j]? = some u → ∃ p, u = .ref p ∧ (upd H5 D (.lst (ys ++ [y]))) p = some (.tup (f j)))) fun σ3 p H5 g3 s5 ep => by
      refine ⟨ys, s5 _ _ (s2 _ _ hd), by omega, n - (i + 1), by omega, rfl, by omega, g3, (sm.trans (s2.trans s5)).upd_free hD _, ys ++ [.ref p], upd_same, by rw [List.length_append, List.length_singleton, hl], fun j u hu => ?_⟩
      have dd := s5 _ _ (s2 _ _ hd)
      by_cases c : j < ys.length
      · rw [List.getElem?_append_left c] at hu
        obtain ⟨p', e1, e2⟩ := hy j u hu
        have e3 := s5 _ _ (s2 _ _ e2)
        exact ⟨p', e1, by rw [upd_ne (ne_of e3 dd (by intro z; cases z))]; exact e3⟩
      · have ej : j = i := by
          have := (List.getElem?_eq_some_iff.mp hu).1
          rw [List.length_append, List.length_singleton] at this
          omega
        subst ej
        rw [List.getElem?_append_right (by omega), hl, Nat.sub_self] at hu
        have eu : u = .ref p := by simpa using hu.symm
        exact ⟨p, eu, by rw [upd_ne (ne_of ep dd (by intro z; cases z))]; exact ep⟩
    have e : (fun (σ3 : St) (H3 : Hp) => te σ3 H3 fun y H5 => ∃ ys, H5 D = some (.lst ys) ∧ ys.length < sizeLine ∧ ∃ m', m' < n - i ∧ (m' = n - (i + 1) ∧ i + 1 ≤ n ∧ Sg σ3 ∧ Same H1 (upd H5 D (.lst (ys ++ [y]))) ∧ ∃ zs, (upd H5 D (.lst (ys ++ [y]))) D = some (.lst zs) ∧ zs.length = i + 1 ∧ ∀ (j : Nat) (u : V), zs[j]? = some u → ∃ p, u = .ref p ∧ (upd H5 D (.lst (ys ++ [y]))) p = some (.tup (f j)))) =
        fun (σ3 : St) (H3 : Hp) => tYes σ3 H3 fun ok H4 => if ok = true then te σ3 H4 fun y H5 => ∃ ys, H5 D = some (.lst ys) ∧ ys.length < sizeLine ∧ ∃ m', m' < n - i ∧ (m' = n - (i + 1) ∧ i + 1 ≤ n ∧ Sg σ3 ∧ Same H1 (upd H5 D (.lst (ys ++ [y]))) ∧ ∃ zs, (upd H5 D (.lst (ys ++ [y]))) D = some (.lst zs) ∧ zs.length = i + 1 ∧ ∀ (j : Nat) (u : V), zs[j]? = some u → ∃ p, u = .ref p ∧ (upd H5 D (.lst (ys ++ [y]))) p = some (.tup (f j)))
          else ∃ m', m' < n - i ∧ (m' = n - (i + 1) ∧ i + 1 ≤ n ∧ Sg σ3 ∧ Same H1 H4 ∧ ∃ zs, H4 D = some (.lst zs) ∧ zs.length = i + 1 ∧ ∀ (j : Nat) (u : V), zs[j]? = some u → ∃ p, u = .ref p ∧ H4 p = some (.tup (f j))) := by
      funext σ3 H3
      unfold tYes
      dsimp only
      rw [if_pos rfl]
    rw [← e]
    exact key
  · have e : i = n := by omega
    subst e
    exact .inl ⟨(items i H sm).2 (Nat.le_refl _), fin H ys sm hd hl hy⟩
/-! a dict's int keys -/
abbrev KI (kvs : List (Key × V)) (ks : List Int) : Prop := kvs.map (·.1) = ks.map Sum.inl
theorem ki_mem {kvs : List (Key × V)} {ks : List Int} (h : KI kvs ks) (x : Int) : (valV kvs (Sum.inl x)).isSome = decide (x ∈ ks) := by
  cases e : valV kvs (Sum.inl x) with
  | none =>
    have := valV_not e
    rw [h] at this
    rw [decide_eq_false fun z => this (List.mem_map.mpr ⟨x, z, rfl⟩)]
    rfl
  | some v =>
    have := valV_in e
    rw [h] at this
    obtain ⟨y, hy, ey⟩ := List.mem_map.mp this
    have : y = x := Sum.inl.inj ey
    rw [decide_eq_true (by rw [← this]; exact hy)]
    rfl
theorem ki_put {kvs : List (Key × V)} {ks : List Int} {x : Int} {v : V} (h : KI kvs ks) (hx : x ∉ ks) : KI (putK kvs (Sum.inl x) v) (ks ++ [x]) := by
  have no : ¬ (kvs.any fun kv => decide (kv.1 = (Sum.inl x : Key))) = true := fun z => by
    obtain ⟨kv, hm, hk⟩ := List.any_eq_true.mp z
    have : (Sum.inl x : Key) ∈ kvs.map (·.1) := List.mem_map.mpr ⟨kv, hm, of_decide_eq_true hk⟩
    rw [h] at this
    obtain ⟨y, hy, ey⟩ := List.mem_map.mp this
    exact hx (by rw [← Sum.inl.inj ey]; exact hy)
  unfold putK KI
  rw [if_neg no, List.map_append, List.map_append, h]
  rfl
end L2
end
section
/-! Lists of ints held side by side, as long as one another. -/
namespace L2
open PySem PySem.Spec PyProof.Rows
set_option maxHeartbeats 4000000
set_option Elab.async false
set_option linter.unusedVariables false
section
variable {X : Cx}
end
end L2
end
section
/-! How many balls a carrier takes. -/
namespace BB
def tkn (z : Nat) : Nat → Int → List Int → Nat
  | _, _, [] => 0
  | L, box, p :: r => if L - min L (p - box).toNat < z then tkn z (L - min L (p - box).toNat + 1) (p + 1) r + 1 else tkn z (L - min L (p - box).toNat) (p + 1) r
theorem less_min (m t : Nat) : m - min m t = m - t := by
  rcases Nat.le_total m t with z | z
  · rw [Nat.min_eq_left z, Nat.sub_self, Nat.sub_eq_zero_of_le z]
  · rw [Nat.min_eq_right z]
theorem tkn_gap {z L : Nat} {lo : Int} {R : List Int} (h : ∀ p ∈ R, lo + 1 ≤ p) : tkn z L lo R = tkn z (L - 1) (lo + 1) R := by
  cases R with
  | nil => rfl
  | cons p r =>
    have hp := h p (List.mem_cons_self ..)
    obtain ⟨n, e⟩ : ∃ n : Nat, p - (lo + 1) = (n : Int) := Int.eq_ofNat_of_zero_le (Int.sub_nonneg_of_le hp)
    have e2 : p - lo = ((n + 1 : Nat) : Int) := by omega
    unfold tkn
    rw [e, e2, Int.toNat_natCast, Int.toNat_natCast, less_min, less_min, Nat.sub_sub, Nat.add_comm 1 n]
theorem tkn_free {z : Nat} {box box' : Int} : ∀ {r : List Int}, tkn z 0 box r = tkn z 0 box' r
  | [] => rfl
  | p :: r => by
    unfold tkn
    rw [Nat.zero_min, Nat.zero_min]
def taken (z : Nat) (r : List Int) : Nat := tkn z 0 (r.headD 0) r
/-- box by box: what lies there, what is carried, what is still to come -/
structure By (z : Nat) (all R fo : List Int) (L t : Nat) (x : Int) : Prop where
  eq : fo ++ sp z L x R = step z all
  tk : t + tkn z L x R = taken z all
  ge : L ≠ 0 → ∀ p ∈ R, x ≤ p
  up : R.Pairwise (· < ·)
  le : L ≤ z
theorem By.start (z : Nat) {all : List Int} (up : all.Pairwise (· < ·)) (x : Int) : By z all all [] 0 0 x :=
  ⟨by rw [List.nil_append]; exact sp_free, by rw [Nat.zero_add]; exact tkn_free, fun h => absurd rfl h, up, Nat.zero_le z⟩
theorem By.take {z : Nat} {all r fo : List Int} {L t : Nat} {x : Int} (h : By z all (x :: r) fo L t x) (hl : L ≠ z) : By z all r fo (L + 1) (t + 1) (x + 1) := by
  obtain ⟨u1, u2⟩ := List.pairwise_cons.mp h.up
  have lz : L < z := by have := h.le; omega
  have e := h.eq
  have k := h.tk
  unfold sp at e
  unfold tkn at k
  have em : min L (x - x).toNat = 0 := by rw [Int.sub_self]; exact Nat.min_zero L
  rw [em, row_zero, List.nil_append, Nat.sub_zero, if_pos lz] at e
  rw [em, Nat.sub_zero, if_pos lz] at k
  exact ⟨e, by omega, fun _ p hp => by have := u1 p hp; omega, u2, lz⟩
theorem By.pass {z : Nat} {all r fo : List Int} {t : Nat} {x : Int} (h : By z all (x :: r) fo z t x) : By z all r (fo ++ [x]) z t (x + 1) := by
  obtain ⟨u1, u2⟩ := List.pairwise_cons.mp h.up
  have e := h.eq
  have k := h.tk
  unfold sp at e
  unfold tkn at k
  have em : min z (x - x).toNat = 0 := by rw [Int.sub_self]; exact Nat.min_zero z
  rw [em, row_zero, List.nil_append, Nat.sub_zero, if_neg (Nat.lt_irrefl z)] at e
  rw [em, Nat.sub_zero, if_neg (Nat.lt_irrefl z)] at k
  exact ⟨by rw [List.append_assoc]; exact e, k, fun _ p hp => by have := u1 p hp; omega, u2, Nat.le_refl z⟩
theorem By.lay {z : Nat} {all R fo : List Int} {L t : Nat} {x : Int} (h : By z all R fo L t x) (hl : 0 < L) (hx : x ∉ R) : By z all R (fo ++ [x]) (L - 1) t (x + 1) := by
  have hg : ∀ p ∈ R, x + 1 ≤ p := fun p hp => by
    have := h.ge (by omega) p hp
    have ne : p ≠ x := fun z => hx (by rw [← z]; exact hp)
    omega
  have e := h.eq
  have k := h.tk
  rw [sp_gap hg, if_pos hl] at e
  rw [tkn_gap hg] at k
  exact ⟨by rw [List.append_assoc]; exact e, k, fun _ => hg, h.up, by have := h.le; omega⟩
theorem By.done {z : Nat} {all fo : List Int} {t : Nat} {x : Int} (h : By z all [] fo 0 t x) : fo = step z all ∧ t = taken z all := by
  have e := h.eq
  have k := h.tk
  constructor
  · rw [← e]
    show fo = fo ++ row x 0
    rw [row_zero, List.append_nil]
  · rw [← k]
    rfl
end BB
end
section
/-! l != []. -/
namespace L2
open PySem PySem.Spec PyProof.Rows
set_option maxHeartbeats 4000000
set_option Elab.async false
set_option linter.unusedVariables false
section
variable {X : Cx}
end
end L2
end
section
/-! f-strings of texts and small ints. -/
namespace L2
open PySem PySem.Spec PyProof.Rows
set_option maxHeartbeats 4000000
set_option Elab.async false
set_option linter.unusedVariables false
abbrev TJ := Str → St → Hp → VK → Prop
def PJ (X : Cx) (es : List Expr) (t : TJ) : Prop :=
  ∀ (out : Str) (pins : List (Addr × Obj)) (s : Shared) (σ : St) (H : Hp) (Q : VK), Inv X pins σ H s → t out σ H Q → wpAny (model X.prog X.w) X.A (joinParts out (evalEach es X.env)) (EP X pins σ Q) X.xe s
section
variable {X : Cx} {e : Expr} {es : List Expr} {te : TE} {t : TJ} {pos : Pos}
def jNil : TJ := fun out _ H Q => out.length ≤ sizeLine ∧ Q (.str out) H
def jStr (y : Str) (t : TJ) : TJ := fun out σ H Q => (out ++ y).length ≤ sizeLine ∧ t (out ++ y) σ H Q
def jInt (te : TE) (t : TJ) : TJ := fun out σ H Q => te σ H fun x H1 => ∃ i : Int, x = .int i ∧ i.natAbs.log2 < 1920 ∧ (out ++ (toString i : Str)).length ≤ sizeLine ∧ t (out ++ (toString i : Str)) σ H1 Q
theorem pj_nil : PJ X [] jNil := by
  intro out pins s σ H Q I h
  obtain ⟨hz, q⟩ := h
  exact joinParts_nil ⟨.str out, H, I.tok _, ⟨_, rfl⟩, q⟩ hz
theorem pj_str {y : Str} {j : Nat} (hr : PJ X es t) : PJ X (.Constant (.str y) j pos :: es) (jStr y t) := by
  intro out pins s σ H Q I h
  obtain ⟨hz, q⟩ := h
  show wpAny _ _ (joinParts out (eval (.Constant (.str y) j pos) X.env :: evalEach es X.env)) _ _ _
  refine joinParts_cons (Calls.Constant_str ?_)
  exact ⟨hz, hr (out ++ y) pins _ σ H Q (I.tok _) q⟩
theorem pj_int (he : PE X e te) (hr : PJ X es t) : PJ X (.FormattedValue e (-1) none pos :: es) (jInt te t) := by
  intro out pins s σ H Q I h
  show wpAny _ _ (joinParts out (eval (.FormattedValue e (-1) none pos) X.env :: evalEach es X.env)) _ _ _
  refine joinParts_cons (FormattedValue_plain (thn (he pins s σ H _ I h) fun u s1 ⟨x, H1, I1, rx, i, ex, hd, hz, q⟩ => ?_))
  subst ex
  obtain ⟨tk, rfl⟩ := int_val rx
  refine formatField_int_small hd ?_
  exact ⟨hz, hr _ pins _ σ H1 Q (I1.tok _) q⟩
def tJoin (t : TJ) : TE := fun σ H Q => t Str.empty σ H Q
theorem pe_fstr {e1 e2 : Expr} (h : PJ X (e1 :: e2 :: es) t) : PE X (.JoinedStr (e1 :: e2 :: es) pos) (tJoin t) := by
  intro pins s σ H Q I hq
  exact JoinedStr_many (h Str.empty pins s σ H Q I hq)
end
end L2
end
section
/-! A comprehension within a comprehension's element: the outer target is a cell. -/
namespace L2
open PySem PySem.Spec PyProof.Rows
set_option maxHeartbeats 4000000
set_option maxRecDepth 100000
set_option Elab.async false
set_option linter.unusedVariables false
abbrev cell0 : Obj := { cls := .type "cell", data := .cell none }
structure Blk1 (t : Str) (sc : Scope) (N0 : List Str) (N : List Str) (nt : Nat) (js : List Nat) (scope : Scope) : Prop where
  kind : scope.kind = .function
  loc : ∀ y ∈ scope.names, y.2 = .local → scope.names.lookup y.1 = some .local
  one : ∀ n cl, cellsFrom n scope.names cl = (t, n) :: cl
  lay : ∀ h, pushCells h scope.names = h.push cell0
  only : ∀ y ∈ scope.names, y.2 = .cell → y.1 = t
  cap : ∀ y ∈ scope.names, y.2 = .free → sc.names.lookup y.1 = some .cell ∨ sc.names.lookup y.1 = some .free
  nf : ∀ y ∈ scope.names, y.2 = .free → y.1 ≠ t
  len : N.length = nt + js.length
  out : N.drop nt = js.map fun j => N0.getD j ""
  js : ∀ j ∈ js, j < N0.length
  fr : ∀ x ∈ N.drop nt, scope.names.lookup x = some .free
  nd : N.Nodup
section
variable {M : Model} {A : Around} {E : Value → Shared → Prop} {s : Shared}
end

section
variable {X : Cx} {pins : List (Addr × Obj)} {σ : St} {H : Hp} {s : Shared} {t : Str} {N : List Str} {nt : Nat} {js : List Nat} {scope : Scope} {cl : List (Str × Addr)} {fp : List Addr}
end
section
variable {X : Cx} {elt iter : Expr} {ifs : List Expr} {scope : Scope} {pos : Pos} {N : List Str} {js : List Nat} {sc : Scope} {N0 : List Str} {wi : TI} {tt : TT} {te : TE} {x : Str} {px : Pos}
end
/-! ### rules with the module's part written out, for use within blocks -/
section
variable {X : Cx} {tg : Expr}
def rLenK (K : PySem.W.Frag) : List V → Hp → VK → Prop := fun xs H Q => ∃ p ys, xs = [.ref p] ∧ (SqL K H p ys ∨ SqT K H p ys) ∧ Q (.int ys.length) H
theorem call_lenK (K : PySem.W.Frag) (h : X.K = K) : CallR X (.builtin "len") (rLenK K) := by subst h; exact call_len_seq
end
end L2
end
section
/-! Peeling: what is taken out, what is left. -/
namespace BB
set_option linter.unusedVariables false
/-- the balls with an empty box right behind them -/
def bare (row : List Int) : List Int := row.filter fun p => decide (p + 1 ∉ row)
/-- what a comprehension with a test tells of a list -/
theorem sel_list {α β : Type} (d : α) (l : List α) (q : α → Bool) (f : α → β) : ((List.range l.length).filter fun i => q (l.getD i d)).map (fun i => f (l.getD i d)) = (l.filter q).map f := by
  induction l with
  | nil => rfl
  | cons a r ih =>
    rw [List.length_cons, List.range_succ_eq_map, List.filter_cons, List.filter_map, List.filter_cons]
    have e1 : (a :: r).getD 0 d = a := rfl
    have e2 : ((fun i => q ((a :: r).getD i d)) ∘ Nat.succ) = fun i => q (r.getD i d) := rfl
    rw [e1, e2]
    cases hq : q a with
    | true =>
      simp only [if_true, List.map_cons, List.map_map]
      rw [show (List.map ((fun i => f ((a :: r).getD i d)) ∘ Nat.succ) ((List.range r.length).filter fun i => q (r.getD i d))) = ((List.range r.length).filter fun i => q (r.getD i d)).map fun i => f (r.getD i d) from rfl, ih]
      rfl
    | false =>
      simp only [Bool.false_eq_true, if_false, List.map_map]
      rw [show (List.map ((fun i => f ((a :: r).getD i d)) ∘ Nat.succ) ((List.range r.length).filter fun i => q (r.getD i d))) = ((List.range r.length).filter fun i => q (r.getD i d)).map fun i => f (r.getD i d) from rfl, ih]
end BB
end
section
/-! The blocks of a row. -/
namespace BB
def blk : List Int → List (Int × Int)
  | [] => []
  | p :: r => match blk r with
    | [] => [(p, 1)]
    | (q, n) :: t => if q = p + 1 then (p, n + 1) :: t else (p, 1) :: (q, n) :: t
end BB
end
section
/-! Blocks put farther. -/
namespace BB
end BB
end
section
/-! Balls and their partners. -/
namespace BB
/-- how many are to be laid yet, so many boxes behind b -/
def wlk (row : List Int) (b : Int) : Nat → Int
  | 0 => 1
  | d + 1 => wlk row b d + if b + (d : Int) + 1 ∈ row then 1 else -1
def Prt (row : List Int) (b : Int) (d : Nat) : Prop := wlk row b d = 0 ∧ ∀ e, e < d → 0 < wlk row b e
theorem prt_uniq {row : List Int} {b : Int} {d d' : Nat} (h : Prt row b d) (h' : Prt row b d') : d = d' := by
  rcases Nat.lt_trichotomy d d' with z | z | z
  · have := h'.2 d z; rw [h.1] at this; omega
  · exact z
  · have := h.2 d' z; rw [h'.1] at this; omega
theorem one_more (p : Int) (r : List Int) : ∀ l : List Int, l.Nodup → (l.filter fun x => decide (x ∈ p :: r)).length ≤ 1 + (l.filter fun x => decide (x ∈ r)).length
  | [], _ => by simp
  | x :: l, nd => by
    have nd' := List.nodup_cons.mp nd
    have ih := one_more p r l nd'.2
    by_cases e : x = p
    · have same : (l.filter fun y => decide (y ∈ p :: r)) = l.filter fun y => decide (y ∈ r) := List.filter_congr fun y hy => by
        have : y ≠ p := fun z => nd'.1 (by rw [e, ← z]; exact hy)
        simp [this]
      rw [List.filter_cons, if_pos (by simp [e]), List.length_cons, same, List.filter_cons]
      split
      · rw [List.length_cons]; omega
      · omega
    · rw [List.filter_cons, List.filter_cons]
      by_cases c : x ∈ r
      · rw [if_pos (by simp [c]), if_pos (by simp [c]), List.length_cons, List.length_cons]; omega
      · rw [if_neg (by simp [c, e]), if_neg (by simp [c])]; exact ih
theorem in_row_le : ∀ (row l : List Int), l.Nodup → (l.filter fun x => decide (x ∈ row)).length ≤ row.length
  | [], l, _ => by simp
  | p :: r, l, nd => by
    have a := one_more p r l nd
    have b := in_row_le r l nd
    rw [List.length_cons]
    omega
/-- the balls that are held, the last one on top; box is looked at next -/
def Stk (row hs : List Int) (box : Int) : Prop := ∀ (j : Nat) (h : Int), hs[j]? = some h → h < box ∧ wlk row h (box - 1 - h).toNat = (hs.length : Int) - (j : Int) ∧ ∀ e, e ≤ (box - 1 - h).toNat → 0 < wlk row h e
theorem wlk_at {row : List Int} {h box : Int} (l : h < box) : wlk row h (box - h).toNat = wlk row h (box - 1 - h).toNat + if box ∈ row then 1 else -1 := by
  have e : (box - h).toNat = (box - 1 - h).toNat + 1 := by omega
  rw [e, wlk, show h + ((box - 1 - h).toNat : Int) + 1 = box by omega]
theorem Stk.pop {row zs : List Int} {h box : Int} (s : Stk row (zs ++ [h]) box) (hb : box ∉ row) : h < box ∧ Prt row h (box - h).toNat ∧ Stk row zs (box + 1) := by
  obtain ⟨l, w, pos⟩ := s zs.length h (by simp)
  refine ⟨l, ⟨?_, fun e he => pos e (by omega)⟩, fun j g hg => ?_⟩
  · rw [wlk_at l, w, if_neg hb, List.length_append, List.length_singleton]
    omega
  · have jl : j < zs.length := (List.getElem?_eq_some_iff.mp hg).1
    obtain ⟨l', w', pos'⟩ := s j g (by rw [List.getElem?_append_left jl]; exact hg)
    have ev : wlk row g (box - g).toNat = (zs.length : Int) - (j : Int) := by
      rw [wlk_at l', w', if_neg hb, List.length_append, List.length_singleton]
      omega
    refine ⟨by omega, by rw [show (box + 1 - 1 - g) = box - g by omega]; exact ev, fun e he => ?_⟩
    by_cases c : e ≤ (box - 1 - g).toNat
    · exact pos' e c
    · rw [show e = (box - g).toNat by omega, ev]
      omega
theorem Stk.push {row hs : List Int} {p box : Int} (s : Stk row hs box) (hp : p ∈ row) (c : hs = [] ∨ box = p) : Stk row (hs ++ [p]) (p + 1) := fun j g hg => by
  rw [List.length_append, List.length_singleton]
  by_cases jl : j < hs.length
  · rw [List.getElem?_append_left jl] at hg
    have eb : box = p := c.elim (fun z => by rw [z] at jl; simp at jl) id
    subst eb
    obtain ⟨l', w', pos'⟩ := s j g hg
    have ev : wlk row g (box - g).toNat = ((hs.length + 1 : Nat) : Int) - (j : Int) := by
      rw [wlk_at l', w', if_pos hp]
      omega
    refine ⟨by omega, by rw [show (box + 1 - 1 - g) = box - g by omega]; exact ev, fun e he => ?_⟩
    by_cases c : e ≤ (box - 1 - g).toNat
    · exact pos' e c
    · rw [show e = (box - g).toNat by omega, ev]
      omega
  · have jj : j = hs.length := by
      have := (List.getElem?_eq_some_iff.mp hg).1
      rw [List.length_append, List.length_singleton] at this
      omega
    subst jj
    rw [List.getElem?_append_right (Nat.le_refl _), Nat.sub_self] at hg
    cases hg
    refine ⟨by omega, ?_, fun e he => ?_⟩
    · rw [show (p + 1 - 1 - p).toNat = 0 by omega]
      show (1 : Int) = _
      omega
    · rw [show e = 0 by omega]
      show (0 : Int) < 1
      omega
end BB
end
section
/-! Rings: balls and their partners, round. -/
namespace BB
set_option linter.unusedVariables false
/-- how many are to be laid yet, so many boxes behind b, where S tells which boxes have balls -/
def wk (S : Int → Bool) (b : Int) : Nat → Int
  | 0 => 1
  | d + 1 => wk S b d + if S (b + (d : Int) + 1) = true then 1 else -1
def Pt (S : Int → Bool) (b : Int) (d : Nat) : Prop := wk S b d = 0 ∧ ∀ e, e < d → 0 < wk S b e
theorem wk_congr {S S' : Int → Bool} {b b' : Int} : ∀ {d : Nat}, (∀ i : Nat, i < d → S (b + (i : Int) + 1) = S' (b' + (i : Int) + 1)) → wk S b d = wk S' b' d
  | 0, _ => rfl
  | d + 1, h => by
    show wk S b d + _ = wk S' b' d + _
    rw [wk_congr fun i hi => h i (by omega), h d (by omega)]
theorem pt_congr {S S' : Int → Bool} {b b' : Int} {d : Nat} (h : ∀ i : Nat, i < d → S (b + (i : Int) + 1) = S' (b' + (i : Int) + 1)) (p : Pt S b d) : Pt S' b' d :=
  ⟨(wk_congr h).symm.trans p.1, fun e he => by rw [← wk_congr fun i hi => h i (by omega)]; exact p.2 e he⟩
theorem wk_row (row : List Int) (b : Int) : ∀ d, wk (fun x => decide (x ∈ row)) b d = wlk row b d
  | 0 => rfl
  | d + 1 => by
    show wk _ b d + _ = wlk row b d + _
    rw [wk_row row b d]
    by_cases c : b + (d : Int) + 1 ∈ row
    · rw [if_pos c, if_pos (decide_eq_true c)]
    · rw [if_neg c, if_neg (fun z => c (of_decide_eq_true z))]
theorem pt_row {row : List Int} {b : Int} {d : Nat} : Pt (fun x => decide (x ∈ row)) b d ↔ Prt row b d := by
  unfold Pt Prt
  simp only [wk_row]
theorem pt_uniq {S : Int → Bool} {b : Int} {d d' : Nat} (h : Pt S b d) (h' : Pt S b d') : d = d' := by
  rcases Nat.lt_trichotomy d d' with z | z | z
  · have := h'.2 d z; rw [h.1] at this; omega
  · exact z
  · have := h.2 d' z; rw [h'.1] at this; omega
theorem wk_add (S : Int → Bool) (b : Int) (d : Nat) : ∀ e : Nat, wk S b (d + e) = wk S b d + wk S (b + (d : Int)) e - 1
  | 0 => by show wk S b d = wk S b d + 1 - 1; omega
  | e + 1 => by
    show wk S b (d + e) + (if S (b + ((d + e : Nat) : Int) + 1) = true then (1 : Int) else -1) = wk S b d + (wk S (b + (d : Int)) e + (if S (b + (d : Int) + (e : Int) + 1) = true then (1 : Int) else -1)) - 1
    rw [wk_add S b d e, show b + ((d + e : Nat) : Int) + 1 = b + (d : Int) + (e : Int) + 1 by omega]
    generalize (if S (b + (d : Int) + (e : Int) + 1) = true then (1 : Int) else -1) = z
    omega
theorem pt_end {S : Int → Bool} {b : Int} {d : Nat} (h : Pt S b d) : ∃ n, d = n + 1 ∧ wk S b n = 1 ∧ S (b + (d : Int)) = false := by
  cases d with
  | zero => exact absurd h.1 (by show ¬ (1 : Int) = 0; omega)
  | succ n =>
    have a := h.2 n (Nat.lt_succ_self _)
    have e : wk S b n + (if S (b + (n : Int) + 1) = true then (1 : Int) else -1) = 0 := h.1
    refine ⟨n, rfl, ?_⟩
    rw [show b + ((n + 1 : Nat) : Int) = b + (n : Int) + 1 by omega]
    cases c : S (b + (n : Int) + 1)
    · rw [c] at e
      simp at e
      exact ⟨by omega, rfl⟩
    · rw [c] at e
      simp at e
      omega
theorem pt_inj' {S : Int → Bool} {b c : Int} {d e : Nat} (hc : S c = true) (p : Pt S b d) (q : Pt S c e) (h : b + (d : Int) = c + (e : Int)) : ¬ b < c := fun l => by
  obtain ⟨n, hn⟩ : ∃ n : Nat, c = b + (n : Int) + 1 := ⟨(c - b - 1).toNat, by omega⟩
  have hd : d = n + 1 + e := by omega
  have a := p.2 n (by obtain ⟨m, e1, _⟩ := pt_end q; omega)
  have w : wk S b (n + 1) = wk S b n + 1 := by
    show wk S b n + _ = _
    rw [← hn, if_pos hc]
  have z := p.1
  rw [hd, wk_add, w, show b + ((n + 1 : Nat) : Int) = c by omega, q.1] at z
  omega
theorem pt_inj {S : Int → Bool} {b c : Int} {d e : Nat} (hb : S b = true) (hc : S c = true) (p : Pt S b d) (q : Pt S c e) (h : b + (d : Int) = c + (e : Int)) : b = c := by
  have := pt_inj' hc p q h
  have := pt_inj' hb q p h.symm
  omega
theorem pt_least (S : Int → Bool) (b : Int) : ∀ N : Nat, wk S b N ≤ 0 → ∃ d, d ≤ N ∧ Pt S b d := by
  intro N
  induction N using Nat.strongRecOn with
  | ind N ih =>
    intro h
    by_cases c : ∃ e, e < N ∧ wk S b e ≤ 0
    · obtain ⟨e, e1, e2⟩ := c
      obtain ⟨d, d1, d2⟩ := ih e e1 e2
      exact ⟨d, by omega, d2⟩
    · have pos : ∀ e, e < N → 0 < wk S b e := fun e he => Int.not_le.mp fun z => c ⟨e, he, z⟩
      cases N with
      | zero => exact absurd h (by simp [wk])
      | succ N =>
        refine ⟨N + 1, Nat.le_refl _, ?_, pos⟩
        have a := pos N (Nat.lt_succ_self _)
        rw [wk] at h ⊢
        split at h <;> split <;> first | omega | contradiction
/-- the row behind a step: the partners -/
theorem sp_mem {row : List Int} (up : row.Pairwise (· < ·)) (z : Nat) : ∀ (n : Nat) (hs R : List Int) (box : Int), hs.length + 2 * R.length ≤ n → hs.length + R.length ≤ z → Stk row hs box → R.Pairwise (· < ·) → (∀ y ∈ R, box ≤ y) → (∀ y, box ≤ y → (y ∈ row ↔ y ∈ R)) →
    ∀ x, x ∈ sp z hs.length box R ↔ ∃ b, b ∈ hs ++ R ∧ b < x ∧ Prt row b (x - b).toNat := by
  intro n
  induction n with
  | zero =>
    intro hs R box l lz st ur ge iff x
    have e1 : hs = [] := List.length_eq_zero_iff.mp (by omega)
    have e2 : R = [] := List.length_eq_zero_iff.mp (by omega)
    subst e1 e2
    constructor
    · intro h; cases h
    · rintro ⟨b, h, _⟩; cases h
  | succ n ih =>
    intro hs R box l lz st ur ge iff x
    -- the next ball is taken
    have push : ∀ (p : Int) (r : List Int), R = p :: r → (hs = [] ∨ box = p) → (x ∈ sp z (hs.length + 1) (p + 1) r ↔ ∃ b, b ∈ hs ++ R ∧ b < x ∧ Prt row b (x - b).toNat) := fun p r e c => by
      subst e
      have bp := ge p List.mem_cons_self
      have pm : p ∈ row := (iff p bp).mpr List.mem_cons_self
      have := ih (hs ++ [p]) r (p + 1) (by rw [List.length_append, List.length_singleton]; rw [List.length_cons] at l; omega) (by rw [List.length_append, List.length_singleton]; rw [List.length_cons] at lz; omega) (st.push pm c) (List.pairwise_cons.mp ur).2 (fun y hy => (List.pairwise_cons.mp ur).1 y hy) (fun y hy => by
        rw [iff y (by omega), List.mem_cons]
        constructor
        · rintro (e | e)
          · omega
          · exact e
        · exact .inr) x
      rw [List.length_append, List.length_singleton, List.append_assoc] at this
      exact this
    cases hc : hs with
    | nil =>
      subst hc
      cases R with
      | nil =>
        constructor
        · intro h; cases h
        · rintro ⟨b, h, _⟩; cases h
      | cons p r =>
        have e : sp z 0 box (p :: r) = sp z 1 (p + 1) r := by
          rw [sp_free (box' := p)]
          conv => lhs; unfold sp
          rw [Nat.zero_min, if_pos (by rw [List.length_cons] at lz; simp only [List.length_nil] at lz; omega)]
          rfl
        show x ∈ sp z 0 box (p :: r) ↔ _
        rw [e]
        exact push p r rfl (.inl rfl)
    | cons h0 ht =>
      rw [← hc]
      have ne : hs ≠ [] := by rw [hc]; exact List.cons_ne_nil _ _
      have hl : 0 < hs.length := List.length_pos_iff.mpr ne
      by_cases c : box ∈ R
      · cases R with
        | nil => cases c
        | cons p r =>
          have ep : p = box := by
            rcases List.mem_cons.mp c with z1 | z1
            · exact z1.symm
            · have := (List.pairwise_cons.mp ur).1 _ z1
              have := ge p List.mem_cons_self
              omega
          have e : sp z hs.length box (p :: r) = sp z (hs.length + 1) (p + 1) r := by
            rw [ep]
            conv => lhs; unfold sp
            rw [Int.sub_self, show min hs.length (0 : Int).toNat = 0 from Nat.min_zero _, Nat.sub_zero, if_pos (by rw [List.length_cons] at lz; omega)]
            rfl
          rw [e]
          exact push p r rfl (.inr ep.symm)
      · have gap : ∀ p ∈ R, box + 1 ≤ p := fun p hp => by
          have := ge p hp
          have : p ≠ box := fun z1 => c (z1 ▸ hp)
          omega
        have nr : box ∉ row := fun z1 => c ((iff box (Int.le_refl _)).mp z1)
        rw [sp_gap gap, if_pos hl]
        rcases List.eq_nil_or_concat hs with e0 | ⟨zs, t, e0⟩
        · exact absurd e0 ne
        rw [List.concat_eq_append] at e0
        subst e0
        obtain ⟨tl, pt, st'⟩ := st.pop nr
        have lzs : (zs ++ [t]).length = zs.length + 1 := by rw [List.length_append, List.length_singleton]
        have := ih zs R (box + 1) (by omega) (by omega) st' ur gap (fun y hy => iff y (by omega)) x
        rw [lzs, Nat.add_sub_cancel, List.mem_cons, this]
        constructor
        · rintro (e | ⟨b, b1, b2⟩)
          · subst e
            exact ⟨t, by simp, tl, pt⟩
          · exact ⟨b, by simp only [List.mem_append, List.mem_singleton] at b1 ⊢; rcases b1 with b1 | b1; exact .inl (.inl b1); exact .inr b1, b2⟩
        · rintro ⟨b, b1, b2, b3⟩
          simp only [List.mem_append, List.mem_singleton] at b1
          rcases b1 with (b1 | b1) | b1
          · exact .inr ⟨b, List.mem_append_left _ b1, b2, b3⟩
          · subst b1
            have := prt_uniq b3 pt
            exact .inl (by omega)
          · exact .inr ⟨b, List.mem_append_right _ b1, b2, b3⟩
theorem step_mem {row : List Int} (up : row.Pairwise (· < ·)) (x : Int) : x ∈ step row.length row ↔ ∃ b, b ∈ row ∧ b < x ∧ Prt row b (x - b).toNat := by
  have hd : ∀ y ∈ row, row.headD 0 ≤ y := fun y hy => by
    cases row with
    | nil => cases hy
    | cons p r =>
      rcases List.mem_cons.mp hy with z | z
      · exact Int.le_of_eq z.symm
      · exact Int.le_of_lt ((List.pairwise_cons.mp up).1 _ z)
  exact sp_mem up row.length (2 * row.length) [] row (row.headD 0) (by simp) (by simp) (fun j h e => by cases e) up hd (fun y _ => Iff.rfl) x
end BB
end
section
/-! Rings: a step, and back. -/
namespace BB
set_option linter.unusedVariables false
theorem few_in {l row : List Int} (nd : l.Nodup) (h : ∀ x ∈ l, x ∈ row) : l.length ≤ row.length := by
  have := in_row_le row l nd
  rwa [List.filter_eq_self.mpr fun x hx => decide_eq_true (h x hx)] at this
structure Ring (N : Int) (bs : List Int) : Prop where
  up : bs.Pairwise (· < ·)
  bd : ∀ b ∈ bs, 0 ≤ b ∧ b < N
  few : 2 * (bs.length : Int) < N
theorem mod_apart {N x y : Int} (h : x < y) (h2 : y < x + N) : x % N ≠ y % N := fun e => by
  have e1 := Int.emod_eq_emod_iff_emod_sub_eq_zero.mp e.symm
  rw [Int.emod_eq_of_lt (by omega) (by omega)] at e1
  omega
theorem wk_is (S : Int → Bool) (b : Int) : ∀ d : Nat, wk S b d = 1 - (d : Int) + 2 * ((((List.range d).map fun (i : Nat) => b + (i : Int) + 1).filter fun x => S x).length : Int)
  | 0 => by simp [wk]
  | d + 1 => by
    rw [wk, wk_is S b d, List.range_succ, List.map_append, List.filter_append, List.length_append, List.map_singleton, List.filter_cons]
    by_cases c : S (b + (d : Int) + 1) = true
    · rw [if_pos c, if_pos c]
      simp only [List.filter_nil, List.length_cons, List.length_nil]
      omega
    · rw [if_neg c, if_neg c]
      simp only [List.filter_nil, List.length_nil]
      omega
/-- a tellor of boxes by what is left at N -/
def Tels (N : Int) (bs : List Int) (S : Int → Bool) (sg : Int) : Prop := (sg = 1 ∨ sg = -1) ∧ ∀ x, S x = true ↔ (sg * x) % N ∈ bs
theorem tels_per {N : Int} {bs : List Int} {S : Int → Bool} {sg : Int} (t : Tels N bs S sg) (x : Int) : S (x + N) = S x := by
  rw [Bool.eq_iff_iff, t.2, t.2]
  rcases t.1 with e | e
  · rw [e, Int.one_mul, Int.one_mul, Int.add_emod_right]
  · rw [e, show -1 * (x + N) = -1 * x - N by omega, Int.sub_emod_right]
theorem tels_few {N : Int} {bs : List Int} {S : Int → Bool} {sg : Int} (r : Ring N bs) (t : Tels N bs S sg) (b : Int) : wk S b N.toNat ≤ 0 := by
  rw [wk_is]
  have key : (((List.range N.toNat).map fun (i : Nat) => b + (i : Int) + 1).filter fun x => S x).length ≤ bs.length := by
    rw [← List.length_map (f := fun x => (sg * x) % N)]
    refine few_in ?_ fun y hy => ?_
    · refine List.pairwise_map.mpr (List.Pairwise.filter _ ?_)
      refine List.pairwise_map.mpr (List.pairwise_iff_getElem.mpr fun i j hi hj l => ?_)
      rw [List.getElem_range, List.getElem_range]
      rw [List.length_range] at hj
      rcases t.1 with e | e
      · rw [e, Int.one_mul, Int.one_mul]
        exact mod_apart (by omega) (by omega)
      · rw [e]
        exact (mod_apart (x := -1 * (b + (j : Int) + 1)) (y := -1 * (b + (i : Int) + 1)) (by omega) (by omega)).symm
    · obtain ⟨x, hx, rfl⟩ := List.mem_map.mp hy
      exact (t.2 x).mp (List.mem_filter.mp hx).2
  have := r.few
  omega
theorem tels_ptn {N : Int} {bs : List Int} {S : Int → Bool} {sg : Int} (r : Ring N bs) (t : Tels N bs S sg) (b : Int) : ∃ d : Nat, (d : Int) ≤ N ∧ Pt S b d := by
  obtain ⟨d, h1, h2⟩ := pt_least S b _ (tels_few r t b)
  have := r.few
  exact ⟨d, by omega, h2⟩
theorem pt_per {N : Int} {bs : List Int} {S : Int → Bool} {sg : Int} (t : Tels N bs S sg) {b : Int} {d : Nat} (p : Pt S b d) : Pt S (b + N) d ∧ Pt S (b - N) d := by
  constructor
  · refine pt_congr (fun i _ => ?_) p
    rw [← tels_per t, show b + (i : Int) + 1 + N = b + N + (i : Int) + 1 by omega]
  · refine pt_congr (fun i _ => ?_) p
    rw [← tels_per t (b - N + (i : Int) + 1), show b - N + (i : Int) + 1 + N = b + (i : Int) + 1 by omega]
/-- two rounds of a ring laid from A on -/
theorem win_step {N A : Int} {bs T : List Int} {S : Int → Bool} {sg : Int} (r : Ring N bs) (t : Tels N bs S sg) (up : T.Pairwise (· < ·)) (mem : ∀ x, x ∈ T ↔ S x = true ∧ A ≤ x ∧ x < A + 2 * N) {x : Int} (h1 : A + N ≤ x) (h2 : x < A + 2 * N) :
    x ∈ step T.length T ↔ ∃ (b : Int) (d : Nat), S b = true ∧ A ≤ b ∧ b < A + N ∧ Pt S b d ∧ (x = b + (d : Int) ∨ x = b + (d : Int) + N) := by
  have agree : ∀ (c : Int) (d i : Nat), A ≤ c → c + (d : Int) < A + 2 * N → i < d → (fun y => decide (y ∈ T)) (c + (i : Int) + 1) = S (c + (i : Int) + 1) := fun c d i g1 g2 g3 => by
    show decide (c + (i : Int) + 1 ∈ T) = _
    rw [Bool.eq_iff_iff, decide_eq_true_iff, mem]
    constructor
    · exact fun z => z.1
    · exact fun z => ⟨z, by omega, by omega⟩
  rw [step_mem up]
  constructor
  · rintro ⟨c, c1, c2, c3⟩
    obtain ⟨s1, s2, s3⟩ := (mem c).mp c1
    have e : ((x - c).toNat : Int) = x - c := by omega
    have p := pt_congr (agree c _ · s2 (by omega)) (pt_row.mpr c3)
    by_cases l : c < A + N
    · exact ⟨c, _, s1, s2, l, p, .inl (by omega)⟩
    · refine ⟨c - N, _, ?_, by omega, by omega, (pt_per t p).2, .inr (by omega)⟩
      rw [← tels_per t, show c - N + N = c by omega]
      exact s1
  · rintro ⟨b, d, s1, s2, s3, p, e⟩
    obtain ⟨d', d1, p'⟩ := tels_ptn r t b
    have ed := pt_uniq p p'
    obtain ⟨n, en, _⟩ := pt_end p
    rcases e with e | e
    · refine ⟨b, (mem b).mpr ⟨s1, s2, by omega⟩, by omega, ?_⟩
      rw [show (x - b).toNat = d by omega]
      exact pt_row.mp (pt_congr (fun i hi => (agree b d i s2 (by omega) hi).symm) p)
    · refine ⟨b + N, (mem _).mpr ⟨by rw [tels_per t]; exact s1, by omega, by omega⟩, by omega, ?_⟩
      rw [show (x - (b + N)).toNat = d by omega]
      exact pt_row.mp (pt_congr (fun i hi => (agree (b + N) d i (by omega) (by omega) hi).symm) (pt_per t p).1)
def twice (N : Int) (bs : List Int) : List Int := bs ++ bs.map (· + N)
theorem twice_up {N : Int} {bs : List Int} (r : Ring N bs) : (twice N bs).Pairwise (· < ·) := by
  refine List.pairwise_append.mpr ⟨r.up, List.pairwise_map.mpr (r.up.imp fun h => by omega), fun a ha b hb => ?_⟩
  obtain ⟨c, hc, rfl⟩ := List.mem_map.mp hb
  have := r.bd a ha
  have := r.bd c hc
  omega
theorem twice_mem {N : Int} {bs : List Int} (r : Ring N bs) (x : Int) : x ∈ twice N bs ↔ x % N ∈ bs ∧ 0 ≤ x ∧ x < 2 * N := by
  have n0 := r.few
  unfold twice
  rw [List.mem_append, List.mem_map]
  constructor
  · rintro (h | ⟨c, h, rfl⟩)
    · have := r.bd x h
      exact ⟨by rw [Int.emod_eq_of_lt this.1 this.2]; exact h, by omega, by omega⟩
    · have := r.bd c h
      exact ⟨by rw [Int.add_emod_right, Int.emod_eq_of_lt this.1 this.2]; exact h, by omega, by omega⟩
  · rintro ⟨h, h0, h1⟩
    by_cases l : x < N
    · rw [Int.emod_eq_of_lt h0 l] at h
      exact .inl h
    · refine .inr ⟨x - N, ?_, by omega⟩
      rw [← Int.sub_emod_right, Int.emod_eq_of_lt (by omega) (by omega)] at h
      exact h
def upS (N : Int) (bs : List Int) : Int → Bool := fun x => decide (x % N ∈ bs)
def dnS (N : Int) (bs : List Int) : Int → Bool := fun x => decide (-x % N ∈ bs)
theorem upS_t (N : Int) (bs : List Int) : Tels N bs (upS N bs) 1 := ⟨.inl rfl, fun x => by unfold upS; rw [decide_eq_true_iff, Int.one_mul]⟩
theorem dnS_t (N : Int) (bs : List Int) : Tels N bs (dnS N bs) (-1) := ⟨.inr rfl, fun x => by unfold dnS; rw [decide_eq_true_iff, show -1 * x = -x by omega]⟩
/-- the ring behind a step -/
def rUp (N : Int) (bs : List Int) : List Int := ((step (twice N bs).length (twice N bs)).filter fun x => decide (N ≤ x) && decide (x < 2 * N)).map (· - N)
def rDn (N : Int) (bs : List Int) : List Int := (unstep (twice N bs).length (twice N bs)).filter fun x => decide (0 ≤ x) && decide (x < N)
theorem mod_is {N x y : Int} (h0 : 0 ≤ y) (h1 : y < N) (k : Int) (e : x = y + k * N) : y = x % N := by
  rw [e, Int.add_mul_emod_self_right, Int.emod_eq_of_lt h0 h1]
theorem mem_up {N : Int} {bs : List Int} (r : Ring N bs) (y : Int) : y ∈ rUp N bs ↔ ∃ b ∈ bs, ∃ d : Nat, Pt (upS N bs) b d ∧ y = (b + (d : Int)) % N := by
  have n0 := r.few
  have wm : ∀ x, x ∈ twice N bs ↔ upS N bs x = true ∧ 0 ≤ x ∧ x < 0 + 2 * N := fun x => by
    rw [twice_mem r, Int.zero_add]
    unfold upS
    rw [decide_eq_true_iff]
  have inb : ∀ b, 0 ≤ b → b < N → (upS N bs b = true ↔ b ∈ bs) := fun b h0 h1 => by
    unfold upS
    rw [decide_eq_true_iff, Int.emod_eq_of_lt h0 h1]
  unfold rUp
  rw [List.mem_map]
  constructor
  · rintro ⟨x, hx, rfl⟩
    obtain ⟨h1, h2⟩ := List.mem_filter.mp hx
    rw [Bool.and_eq_true, decide_eq_true_iff, decide_eq_true_iff] at h2
    obtain ⟨b, d, s1, s2, s3, p, e⟩ := (win_step r (upS_t N bs) (twice_up r) wm (by omega) (by omega)).mp h1
    refine ⟨b, (inb b s2 (by omega)).mp s1, d, p, ?_⟩
    rcases e with e | e
    · exact mod_is (by omega) (by omega) 1 (by omega)
    · exact mod_is (by omega) (by omega) 0 (by omega)
  · rintro ⟨b, hb, d, p, rfl⟩
    have b1 := r.bd b hb
    obtain ⟨d', d1, p'⟩ := tels_ptn r (upS_t N bs) b
    have ed := pt_uniq p p'
    have q : ∀ x, N ≤ x → x < 2 * N → (x = b + (d : Int) ∨ x = b + (d : Int) + N) → x ∈ (step (twice N bs).length (twice N bs)).filter fun x => decide (N ≤ x) && decide (x < 2 * N) := fun x l1 l2 e =>
      List.mem_filter.mpr ⟨(win_step r (upS_t N bs) (twice_up r) wm (by omega) (by omega)).mpr ⟨b, d, (inb b b1.1 b1.2).mpr hb, b1.1, by omega, p, e⟩, by rw [Bool.and_eq_true, decide_eq_true_iff, decide_eq_true_iff]; exact ⟨l1, l2⟩⟩
    by_cases l : b + (d : Int) < N
    · exact ⟨b + (d : Int) + N, q _ (by omega) (by omega) (.inr rfl), by rw [← mod_is (y := b + (d : Int)) (by omega) l 0 (by omega)]; omega⟩
    · exact ⟨b + (d : Int), q _ (by omega) (by omega) (.inl rfl), mod_is (by omega) (by omega) 1 (by omega)⟩
theorem mem_dn {N : Int} {bs : List Int} (r : Ring N bs) (y : Int) : y ∈ rDn N bs ↔ ∃ b ∈ bs, ∃ d : Nat, Pt (dnS N bs) (-b) d ∧ y = (b - (d : Int)) % N := by
  have n0 := r.few
  have mm : ∀ (l : List Int) (x : Int), x ∈ mir l ↔ -x ∈ l := fun l x => by
    unfold mir
    rw [List.mem_map]
    constructor
    · rintro ⟨z, hz, rfl⟩
      rw [Int.neg_neg]
      exact List.mem_reverse.mp hz
    · exact fun h => ⟨-x, List.mem_reverse.mpr h, by omega⟩
  have wm : ∀ x, x ∈ mir (twice N bs) ↔ dnS N bs x = true ∧ 1 - 2 * N ≤ x ∧ x < 1 - 2 * N + 2 * N := fun x => by
    rw [mm, twice_mem r]
    unfold dnS
    rw [decide_eq_true_iff]
    constructor
    · exact fun z => ⟨z.1, by omega, by omega⟩
    · exact fun z => ⟨z.1, by omega, by omega⟩
  have inb : ∀ b, 0 ≤ b → b < N → (dnS N bs (-b) = true ↔ b ∈ bs) := fun b h0 h1 => by
    unfold dnS
    rw [decide_eq_true_iff, Int.neg_neg, Int.emod_eq_of_lt h0 h1]
  have ws : ∀ x, 0 ≤ x → x < N → (x ∈ unstep (twice N bs).length (twice N bs) ↔ ∃ (b : Int) (d : Nat), dnS N bs b = true ∧ 1 - 2 * N ≤ b ∧ b < 1 - 2 * N + N ∧ Pt (dnS N bs) b d ∧ (-x = b + (d : Int) ∨ -x = b + (d : Int) + N)) := fun x h0 h1 => by
    unfold unstep
    rw [mm]
    have := win_step (A := 1 - 2 * N) (x := -x) r (dnS_t N bs) (mir_up (twice_up r)) wm (by omega) (by omega)
    rw [mir_length] at this
    exact this
  unfold rDn
  constructor
  · intro hx
    obtain ⟨h1, h2⟩ := List.mem_filter.mp hx
    rw [Bool.and_eq_true, decide_eq_true_iff, decide_eq_true_iff] at h2
    obtain ⟨c, d, s1, s2, s3, p, e⟩ := (ws y h2.1 h2.2).mp h1
    have p2 := (pt_per (dnS_t N bs) p).1
    refine ⟨-(c + N), (inb _ (by omega) (by omega)).mp ?_, d, by rw [Int.neg_neg]; exact p2, ?_⟩
    · rw [Int.neg_neg, tels_per (dnS_t N bs)]
      exact s1
    rcases e with e | e
    · exact mod_is (by omega) (by omega) (-1) (by omega)
    · exact mod_is (by omega) (by omega) 0 (by omega)
  · rintro ⟨b, hb, d, p, rfl⟩
    have b1 := r.bd b hb
    obtain ⟨d', d1, p'⟩ := tels_ptn r (dnS_t N bs) (-b)
    have ed := pt_uniq p p'
    have p2 := (pt_per (dnS_t N bs) p).2
    have q : ∀ x, 0 ≤ x → x < N → (-x = -b - N + (d : Int) ∨ -x = -b - N + (d : Int) + N) → x ∈ (unstep (twice N bs).length (twice N bs)).filter fun x => decide (0 ≤ x) && decide (x < N) := fun x l1 l2 e =>
      List.mem_filter.mpr ⟨(ws x l1 l2).mpr ⟨-b - N, d, by rw [← tels_per (dnS_t N bs), show -b - N + N = -b by omega]; exact (inb b b1.1 b1.2).mpr hb, by omega, by omega, p2, e⟩, by rw [Bool.and_eq_true, decide_eq_true_iff, decide_eq_true_iff]; exact ⟨l1, l2⟩⟩
    by_cases l : b - (d : Int) < 0
    · have e : (b - (d : Int)) % N = b - (d : Int) + N := (mod_is (y := b - (d : Int) + N) (by omega) (by omega) (-1) (by omega)).symm
      rw [e]
      exact q _ (by omega) (by omega) (.inl (by omega))
    · have e : (b - (d : Int)) % N = b - (d : Int) := (mod_is (y := b - (d : Int)) (by omega) (by omega) 0 (by omega)).symm
      rw [e]
      exact q _ (by omega) (by omega) (.inr (by omega))
theorem up_up {N : Int} {bs : List Int} (r : Ring N bs) : (rUp N bs).Pairwise (· < ·) := by
  have w : Rw (twice N bs) _ 0 (2 * N) := ⟨twice_up r, rfl, fun p hp => by have := (twice_mem r p).mp hp; omega⟩
  exact List.pairwise_map.mpr (((w.step _).up.filter _).imp fun h => by omega)
theorem dn_up {N : Int} {bs : List Int} (r : Ring N bs) : (rDn N bs).Pairwise (· < ·) := by
  have w : Rw (twice N bs) _ 0 (2 * N) := ⟨twice_up r, rfl, fun p hp => by have := (twice_mem r p).mp hp; omega⟩
  exact (w.unstep _).up.filter _
/-- partners of unlike balls are unlike, round too -/
theorem ptn_apart {N : Int} {bs : List Int} {S : Int → Bool} {sg : Int} (r : Ring N bs) (t : Tels N bs S sg) {b c : Int} {d e : Nat} (hb : S b = true) (hc : S c = true) (p : Pt S b d) (q : Pt S c e) (h : (b + (d : Int)) % N = (c + (e : Int)) % N) : b % N = c % N := by
  have shift : ∀ (k : Nat) (x : Int) (n : Nat), S x = true → Pt S x n → S (x + (k : Int) * N) = true ∧ Pt S (x + (k : Int) * N) n := fun k => by
    induction k with
    | zero => intro x n a b; rw [show x + ((0 : Nat) : Int) * N = x by omega]; exact ⟨a, b⟩
    | succ k ih =>
      intro x n a b
      obtain ⟨a1, b1⟩ := ih x n a b
      have e : x + ((k + 1 : Nat) : Int) * N = x + (k : Int) * N + N := by rw [show ((k + 1 : Nat) : Int) = (k : Int) + 1 by omega, Int.add_mul, Int.one_mul]; omega
      rw [e]
      exact ⟨by rw [tels_per t]; exact a1, (pt_per t b1).1⟩
  have e1 := Int.emod_add_mul_ediv (b + (d : Int)) N
  have e2 := Int.emod_add_mul_ediv (c + (e : Int)) N
  generalize (b + (d : Int)) / N = k1 at e1
  generalize (c + (e : Int)) / N = k2 at e2
  have key : ∀ (b c : Int) (d e : Nat) (k1 k2 : Int), S b = true → S c = true → Pt S b d → Pt S c e → b + (d : Int) + (k2 - k1) * N = c + (e : Int) → k1 ≤ k2 → b % N = c % N := fun b c d e k1 k2 hb hc p q h l => by
    obtain ⟨a1, b1⟩ := shift (k2 - k1).toNat b d hb p
    rw [show (((k2 - k1).toNat : Nat) : Int) = k2 - k1 by omega] at a1 b1
    have := pt_inj a1 hc b1 q (by omega)
    rw [← this, Int.add_mul_emod_self_right]
  have m1 : (k2 - k1) * N = N * k2 - N * k1 := by rw [Int.sub_mul, Int.mul_comm k2, Int.mul_comm k1]
  have m2 : (k1 - k2) * N = N * k1 - N * k2 := by rw [Int.sub_mul, Int.mul_comm k2, Int.mul_comm k1]
  by_cases l : k1 ≤ k2
  · exact key b c d e k1 k2 hb hc p q (by omega) l
  · exact (key c b e d k2 k1 hc hb q p (by omega) (by omega)).symm
/-- what is found ball by ball, put in order -/
theorem up_is {N : Int} {bs ns : List Int} (r : Ring N bs) (f : Int → Nat) (hf : ∀ b ∈ bs, Pt (upS N bs) b (f b)) (pm : ns.Perm (bs.map fun b => (b + (f b : Int)) % N)) (le : ns.Pairwise (· ≤ ·)) : ns = rUp N bs ∧ (rUp N bs).length = bs.length := by
  have inb : ∀ b ∈ bs, upS N bs b = true := fun b hb => by
    have := r.bd b hb
    unfold upS
    rw [decide_eq_true_iff, Int.emod_eq_of_lt this.1 this.2]
    exact hb
  have nd : (bs.map fun b => (b + (f b : Int)) % N).Nodup := by
    refine List.pairwise_map.mpr (r.up.imp_of_mem fun {a b} ha hb l e => ?_)
    have := ptn_apart r (upS_t N bs) (inb a ha) (inb b hb) (hf a ha) (hf b hb) e
    have a1 := r.bd a ha
    have b1 := r.bd b hb
    rw [Int.emod_eq_of_lt a1.1 a1.2, Int.emod_eq_of_lt b1.1 b1.2] at this
    omega
  have e : ns = rUp N bs := by
    refine rise_ext ?_ (up_up r) fun y => ?_
    · exact (le.and (pm.nodup_iff.mpr nd)).imp fun h => by omega
    · rw [pm.mem_iff, mem_up r, List.mem_map]
      constructor
      · rintro ⟨b, hb, rfl⟩
        exact ⟨b, hb, f b, hf b hb, rfl⟩
      · rintro ⟨b, hb, d, p, rfl⟩
        exact ⟨b, hb, by rw [pt_uniq p (hf b hb)]⟩
  exact ⟨e, by rw [← e, pm.length_eq, List.length_map]⟩
theorem dn_is {N : Int} {bs ns : List Int} (r : Ring N bs) (f : Int → Nat) (hf : ∀ b ∈ bs, Pt (dnS N bs) (-b) (f b)) (pm : ns.Perm (bs.map fun b => (b - (f b : Int)) % N)) (le : ns.Pairwise (· ≤ ·)) : ns = rDn N bs ∧ (rDn N bs).length = bs.length := by
  have inb : ∀ b ∈ bs, dnS N bs (-b) = true := fun b hb => by
    have := r.bd b hb
    unfold dnS
    rw [decide_eq_true_iff, Int.neg_neg, Int.emod_eq_of_lt this.1 this.2]
    exact hb
  have nd : (bs.map fun b => (b - (f b : Int)) % N).Nodup := by
    refine List.pairwise_map.mpr (r.up.imp_of_mem fun {a b} ha hb l e => ?_)
    have e' : (-a + (f a : Int)) % N = (-b + (f b : Int)) % N := by
      have := Int.emod_eq_emod_iff_emod_sub_eq_zero.mp e
      apply Int.emod_eq_emod_iff_emod_sub_eq_zero.mpr
      rw [show -a + (f a : Int) - (-b + (f b : Int)) = -(a - (f a : Int) - (b - (f b : Int))) by omega]
      exact Int.emod_eq_zero_of_dvd (Int.dvd_neg.mpr (Int.dvd_of_emod_eq_zero this))
    have := ptn_apart r (dnS_t N bs) (inb a ha) (inb b hb) (hf a ha) (hf b hb) e'
    have a1 := r.bd a ha
    have b1 := r.bd b hb
    exact mod_apart (x := -b) (y := -a) (by omega) (by omega) this.symm
  have e : ns = rDn N bs := by
    refine rise_ext ?_ (dn_up r) fun y => ?_
    · exact (le.and (pm.nodup_iff.mpr nd)).imp fun h => by omega
    · rw [pm.mem_iff, mem_dn r, List.mem_map]
      constructor
      · rintro ⟨b, hb, rfl⟩
        exact ⟨b, hb, f b, hf b hb, rfl⟩
      · rintro ⟨b, hb, d, p, rfl⟩
        exact ⟨b, hb, by rw [pt_uniq p (hf b hb)]⟩
  exact ⟨e, by rw [← e, pm.length_eq, List.length_map]⟩
/-- how far a ball goes -/
theorem far_ex {N : Int} {bs : List Int} {S : Int → Bool} {sg : Int} (r : Ring N bs) (t : Tels N bs S sg) : ∃ f : Int → Nat, ∀ b, Pt S b (f b) := by
  exact ⟨fun b => Classical.choose (tels_ptn r t b), fun b => (Classical.choose_spec (tels_ptn r t b)).2⟩
theorem up_ring {N : Int} {bs : List Int} (r : Ring N bs) : Ring N (rUp N bs) ∧ (rUp N bs).length = bs.length := by
  obtain ⟨f, hf⟩ := far_ex r (upS_t N bs)
  have n0 := r.few
  -- the partners, put in order
  have ln : (rUp N bs).length = bs.length := by
    have nd : (bs.map fun b => (b + (f b : Int)) % N).Nodup := by
      refine List.pairwise_map.mpr (r.up.imp_of_mem fun {a b} ha hb l e => ?_)
      have a1 := r.bd a ha
      have b1 := r.bd b hb
      have := ptn_apart r (upS_t N bs) (by unfold upS; rw [decide_eq_true_iff, Int.emod_eq_of_lt a1.1 a1.2]; exact ha) (by unfold upS; rw [decide_eq_true_iff, Int.emod_eq_of_lt b1.1 b1.2]; exact hb) (hf a) (hf b) e
      rw [Int.emod_eq_of_lt a1.1 a1.2, Int.emod_eq_of_lt b1.1 b1.2] at this
      omega
    have a := few_in (row := bs.map fun b => (b + (f b : Int)) % N) ((up_up r).imp fun h => by omega) fun y hy => by
      obtain ⟨b, hb, d, p, rfl⟩ := (mem_up r y).mp hy
      exact List.mem_map.mpr ⟨b, hb, by rw [pt_uniq p (hf b)]⟩
    have b := few_in (row := rUp N bs) nd fun y hy => by
      obtain ⟨b, hb, rfl⟩ := List.mem_map.mp hy
      exact (mem_up r _).mpr ⟨b, hb, f b, hf b, rfl⟩
    rw [List.length_map] at a b
    omega
  refine ⟨⟨up_up r, fun y hy => ?_, by rw [ln]; exact n0⟩, ln⟩
  obtain ⟨b, hb, d, p, rfl⟩ := (mem_up r y).mp hy
  exact ⟨Int.emod_nonneg _ (by omega), Int.emod_lt_of_pos _ (by omega)⟩
/-- one way or the other -/
def waS (way N : Int) (bs : List Int) : Int → Bool := fun x => decide ((way * x) % N ∈ bs)
theorem waS_t {way N : Int} (bs : List Int) (h : way = 1 ∨ way = -1) : Tels N bs (waS way N bs) way := ⟨h, fun x => by unfold waS; rw [decide_eq_true_iff]⟩
def rW (way N : Int) (bs : List Int) : List Int := if way = 1 then rUp N bs else rDn N bs
theorem wa_is {way N : Int} {bs ns : List Int} (h : way = 1 ∨ way = -1) (r : Ring N bs) (f : Int → Nat) (hf : ∀ b ∈ bs, Pt (waS way N bs) (way * b) (f b)) (pm : ns.Perm (bs.map fun b => (b + way * (f b : Int)) % N)) (le : ns.Pairwise (· ≤ ·)) : ns = rW way N bs := by
  rcases h with rfl | rfl
  · have e : waS 1 N bs = upS N bs := by funext x; unfold waS upS; rw [Int.one_mul]
    rw [e] at hf
    unfold rW
    rw [if_pos rfl]
    refine (up_is r f (fun b hb => by have := hf b hb; rwa [Int.one_mul] at this) ?_ le).1
    refine pm.trans (List.Perm.of_eq (List.map_congr_left fun b _ => by rw [Int.one_mul]))
  · have e : waS (-1) N bs = dnS N bs := by funext x; unfold waS dnS; rw [show -1 * x = -x by omega]
    rw [e] at hf
    unfold rW
    rw [if_neg (by decide)]
    refine (dn_is r f (fun b hb => by have := hf b hb; rwa [show -1 * b = -b by omega] at this) ?_ le).1
    refine pm.trans (List.Perm.of_eq (List.map_congr_left fun b _ => by rw [show b + -1 * (f b : Int) = b - (f b : Int) by omega]))
theorem wa_go {way N : Int} (bs : List Int) (h : way = 1 ∨ way = -1) (b : Int) (e : Nat) : waS way N bs (way * b + (e : Int) + 1) = decide (((b + way * (e : Int)) % N + way) % N ∈ bs) := by
  unfold waS
  rw [Int.emod_add_emod]
  rcases h with rfl | rfl
  · rw [Int.one_mul, Int.one_mul, Int.one_mul]
  · rw [show -1 * (-1 * b + (e : Int) + 1) = b + -1 * (e : Int) + -1 by omega]
theorem wa_next {way N : Int} (b : Int) (e : Nat) : ((b + way * (e : Int)) % N + way) % N = (b + way * ((e + 1 : Nat) : Int)) % N := by
  rw [Int.emod_add_emod, show ((e + 1 : Nat) : Int) = (e : Int) + 1 by omega, Int.mul_add, Int.mul_one, Int.add_assoc]
theorem wa_mu {way N b : Int} {e : Nat} (h : way = 1 ∨ way = -1) (l : (e : Int) < N) : (way * ((b + way * (e : Int)) % N - b)) % N = (e : Int) := by
  have e1 := Int.emod_add_mul_ediv (b + way * (e : Int)) N
  generalize (b + way * (e : Int)) / N = k at e1
  generalize (b + way * (e : Int)) % N = r at e1
  rcases h with rfl | rfl
  · exact (mod_is (by omega) l (-k) (by rw [Int.neg_mul, Int.mul_comm k]; omega)).symm
  · exact (mod_is (by omega) l k (by rw [Int.mul_comm k]; omega)).symm
theorem wa_lt {N : Int} {bs : List Int} {S : Int → Bool} {sg : Int} (r : Ring N bs) (t : Tels N bs S sg) {b : Int} {d : Nat} (hb : S b = true) (p : Pt S b d) : (d : Int) < N := by
  obtain ⟨d', l, p'⟩ := tels_ptn r t b
  have e := pt_uniq p p'
  subst e
  obtain ⟨_, _, _, h⟩ := pt_end p
  have : (d : Int) ≠ N := fun z => by rw [z, tels_per t, hb] at h; cases h
  omega
end BB
end
section
/-! Rings: taking out, and rounds. -/
namespace BB
set_option linter.unusedVariables false
def rGone (N : Int) (bs : List Int) : List Int := bs.filter fun b => decide ((b + 1) % N ∉ bs)
def rOut (N : Int) (bs : List Int) : List Int := rGone N bs ++ (rGone N bs).map fun b => (b + 1) % N
section
variable {N : Int} {bs : List Int}
/-- which one it is of those that stay -/
def rk (N : Int) (bs : List Int) (x : Int) : Int := x - (((rOut N bs).filter fun g => decide (g < x)).length : Int)
end
/-! ### rounds -/
def itR (N : Int) : Nat → List Int → List Int
  | 0, bs => bs
  | n + 1, bs => rUp N (itR N n bs)
theorem itR_ring {N : Int} {bs : List Int} (r : Ring N bs) : ∀ n : Nat, Ring N (itR N n bs)
  | 0 => r
  | n + 1 => (up_ring (itR_ring r n)).1
theorem many_in {α : Type} [DecidableEq α] : ∀ (l m : List α), l.Nodup → (∀ x ∈ l, x ∈ m) → l.length ≤ m.length
  | [], m, _, _ => Nat.zero_le _
  | x :: l, m, nd, h => by
    obtain ⟨n1, n2⟩ := List.nodup_cons.mp nd
    have hx := h x List.mem_cons_self
    have := many_in l (m.erase x) n2 fun y hy => (List.mem_erase_of_ne fun (e : y = x) => n1 (e ▸ hy)).mpr (h y (List.mem_cons_of_mem _ hy))
    rw [List.length_erase_of_mem hx] at this
    have : 0 < m.length := List.length_pos_of_mem hx
    rw [List.length_cons]
    omega
end BB
end
section
/-! All ways to lay so many balls into so many boxes, in their order. -/
namespace BB
set_option linter.all false
set_option maxRecDepth 100000
/-- the box from which on the next ball may lie -/
def nxt (way : List Int) : Int := way.getLastD (-1) + 1
def wayF (N : Nat) (way : List Int) : List (List Int) := (row (nxt way) (N - (nxt way).toNat)).map fun p => way ++ [p]
def waysL (N : Nat) : Nat → List (List Int)
  | 0 => [[]]
  | k + 1 => (waysL N k).flatMap (wayF N)
structure Way (N k : Nat) (w : List Int) : Prop where
  len : w.length = k
  up : w.Pairwise (· < ·)
  bd : ∀ x ∈ w, 0 ≤ x ∧ x < (N : Int)
theorem nxt_last (w : List Int) (x : Int) : nxt (w ++ [x]) = x + 1 := by unfold nxt; simp
theorem nxt_bd {N k : Nat} {w : List Int} (h : Way N k w) : 0 ≤ nxt w ∧ nxt w ≤ (N : Int) ∧ ∀ x ∈ w, x < nxt w := by
  rcases List.eq_nil_or_concat w with rfl | ⟨l, a, rfl⟩
  · exact ⟨by decide, by show (0 : Int) ≤ _; omega, fun x hx => by cases hx⟩
  · rw [List.concat_eq_append] at h ⊢
    rw [nxt_last]
    have := h.bd a (by simp)
    refine ⟨by omega, by omega, fun x hx => ?_⟩
    rcases List.mem_append.mp hx with z | z
    · have := (List.pairwise_append.mp h.up).2.2 x z a (by simp)
      omega
    · rw [List.mem_singleton] at z
      omega
theorem mem_wayF {N : Nat} {w v : List Int} (h0 : 0 ≤ nxt w) (hN : nxt w ≤ (N : Int)) : v ∈ wayF N w ↔ ∃ p : Int, nxt w ≤ p ∧ p < (N : Int) ∧ v = w ++ [p] := by
  unfold wayF row
  rw [List.mem_map]
  constructor
  · rintro ⟨p, hp, rfl⟩
    obtain ⟨i, hi, rfl⟩ := List.mem_map.mp hp
    rw [List.mem_range] at hi
    exact ⟨_, by omega, by omega, rfl⟩
  · rintro ⟨p, h1, h2, rfl⟩
    exact ⟨p, List.mem_map.mpr ⟨(p - nxt w).toNat, List.mem_range.mpr (by omega), by omega⟩, rfl⟩
theorem mem_ways {N : Nat} : ∀ {k : Nat} {w : List Int}, w ∈ waysL N k ↔ Way N k w
  | 0, w => by
    show w ∈ [[]] ↔ _
    rw [List.mem_singleton]
    constructor
    · rintro rfl
      exact ⟨rfl, List.Pairwise.nil, fun x hx => by cases hx⟩
    · exact fun h => List.length_eq_zero_iff.mp h.len
  | k + 1, w => by
    show w ∈ (waysL N k).flatMap (wayF N) ↔ _
    rw [List.mem_flatMap]
    constructor
    · rintro ⟨v, hv, h⟩
      have hv := mem_ways.mp hv
      obtain ⟨n0, n1, n2⟩ := nxt_bd hv
      obtain ⟨p, p1, p2, rfl⟩ := (mem_wayF n0 n1).mp h
      refine ⟨by simp [hv.len], List.pairwise_append.mpr ⟨hv.up, List.pairwise_singleton .., fun x hx y hy => ?_⟩, fun x hx => ?_⟩
      · rw [List.mem_singleton] at hy
        have := n2 x hx
        omega
      · rcases List.mem_append.mp hx with z | z
        · exact hv.bd x z
        · rw [List.mem_singleton] at z
          omega
    · intro h
      rcases List.eq_nil_or_concat w with rfl | ⟨l, a, rfl⟩
      · exact absurd h.len (by simp)
      · rw [List.concat_eq_append] at h ⊢
        have hl : Way N k l := ⟨by have := h.len; simp at this; exact this, (List.pairwise_append.mp h.up).1, fun x hx => h.bd x (by simp [hx])⟩
        obtain ⟨n0, n1, n2⟩ := nxt_bd hl
        refine ⟨l, mem_ways.mpr hl, (mem_wayF n0 n1).mpr ⟨a, ?_, (h.bd a (by simp)).2, rfl⟩⟩
        rcases List.eq_nil_or_concat l with rfl | ⟨m, b, rfl⟩
        · exact (h.bd a (by simp)).1
        · rw [List.concat_eq_append, nxt_last]
          have := (List.pairwise_append.mp h.up).2.2 b (by simp) a (by simp)
          omega
theorem Way.ring {N k : Nat} {w : List Int} (h : Way N k w) (few : 2 * k < N) : Ring (N : Int) w := ⟨h.up, h.bd, by rw [h.len]; omega⟩
theorem few_ways : ∀ N, N ≤ 10 → ∀ k, k ≤ 10 → (waysL N k).length ≤ 252 := by decide +kernel
theorem part_ways {N k : Nat} (hN : N ≤ 10) (hk : k + 1 ≤ 10) (i : Nat) : (((waysL N k).take i).flatMap (wayF N)).length ≤ 252 := by
  refine Nat.le_trans (List.Sublist.length_le ?_) (few_ways N hN (k + 1) hk)
  show List.Sublist _ ((waysL N k).flatMap (wayF N))
  conv => rhs; rw [← List.take_append_drop i (waysL N k), List.flatMap_append]
  exact List.sublist_append_left ..
end BB
end
section
/-! An exception in flight, by the layer's own heap: what the library keeps of a base, kept of a base that is chosen for each step: the heap itself without the exception, its traceback and the frames. -/
namespace L2
open PySem PySem.Spec PyProof.Rows
set_option maxHeartbeats 4000000
set_option Elab.async false
set_option linter.unusedVariables false

/-! ### a heap without some of its objects -/
def lessOf : List Addr → Heap → Heap
  | [], h => h
  | a :: S, h => (lessOf S h).update a fun o => { o with data := .freed }
theorem freed_get (h : Heap) (a : Addr) : (h.update a fun o => { o with data := .freed }).get? a = none := by
  obtain ⟨objs, l⟩ := h
  show Heap.get? ⟨objs.modify a _, l⟩ a = none
  unfold Heap.get?
  simp only [Array.getElem?_modify, if_pos]
  cases objs[a]? <;> rfl
theorem less_in : ∀ {S : List Addr} {h : Heap} {b : Addr}, b ∈ S → (lessOf S h).get? b = none
  | a :: S, h, b, hb => by
    by_cases e : a = b
    · subst e; exact freed_get _ _
    · show ((lessOf S h).update a _).get? b = none
      rw [Heap.get?_update_other _ _ e]
      exact less_in ((List.mem_cons.mp hb).resolve_left fun z => e z.symm)
theorem less_out : ∀ {S : List Addr} {h : Heap} {b : Addr}, b ∉ S → (lessOf S h).get? b = h.get? b
  | [], _, _, _ => rfl
  | a :: S, h, b, hb => by
    show ((lessOf S h).update a _).get? b = _
    rw [Heap.get?_update_other _ _ fun z => hb (by rw [z]; exact List.mem_cons_self), less_out fun z => hb (List.mem_cons_of_mem _ z)]
theorem less_some {S : List Addr} {h : Heap} {b : Addr} {o : Obj} (e : (lessOf S h).get? b = some o) : b ∉ S ∧ h.get? b = some o := by
  by_cases hb : b ∈ S
  · rw [less_in hb] at e; cases e
  · exact ⟨hb, (less_out hb).symm.trans e⟩
theorem less_stays (S : List Addr) (h : Heap) : (lessOf S h).StaysIn h := fun _ _ e => (less_some e).2
theorem less_frames {S : List Addr} {h base : Heap} : ∀ {l : List Env}, (∀ b ∈ frs l, b ∈ S) → h.FunFrames base l → h.FunFrames (lessOf S h) l
  | [], _, _ => trivial
  | env :: r, hs, ⟨hk, ⟨L, o, hf, _, ho, hd⟩, hr⟩ => by
    have hm : ∀ b, b = L ∨ b ∈ frs r → b ∈ S := fun b hb => hs b (by unfold frs; rw [List.filterMap_cons, hf]; exact List.mem_cons.mpr hb)
    exact ⟨hk, ⟨L, o, hf, less_in (hm L (.inl rfl)), ho, hd⟩, less_frames (fun b hb => hm b (.inr hb)) hr⟩

/-! ### in flight -/
/-- the exception at e with its traceback at T -/
def Trc (h : Heap) (e T : Addr) (cls : Value) : Prop :=
  ∃ oe vs oT ts a0, h.get? e = some oe ∧ oe.cls = cls ∧ vs[0]? = some a0 ∧ oe.data = .fields vs ∧ vs[1]? = some (.ref T) ∧ T ≠ e ∧ h.get? T = some oT ∧ oT.data = .fields ts ∧ ts[3]? = some .none
/-- behind a call that raised: outer the callers, H and s ahead of the call -/
structure Fly (P : Program) (w : World) (outer : List Env) (H : Hp) (s : Shared) (H' : Hp) (e : Addr) (cls : Value) (s' : Shared) : Prop where
  os : s'.os = s.os
  bare : AllBare s'.gens
  un : Un (frs outer) [] H H' s.heap s'.heap
  hok : HOk P w H' s'.heap
  new : s.heap.get? e = none
  free : H' e = none
  tr : ∃ T, Trc s'.heap e T cls ∧ s.heap.get? T = none ∧ H' T = none
def CXF (P : Program) (w : World) : CXT := fun outer H s E v s' => ∃ e cls H', v = .ref e ∧ Fly P w outer H s H' e cls s' ∧ E cls (some e) H'

section
variable {P : Program} {w : World} {base : Heap} {env : Env} {outer : List Env} {L : Addr}
/-- what leaving a frame has done to a heap: all but S is as it was, of what has no fields at most the slots changed -/
structure Gone (S : List Addr) (h h' : Heap) : Prop where
  keep : ∀ b o, b ∉ S → h.get? b = some o → h'.get? b = some o
  slot : h.UpToSlots h'
theorem Gone.hok {S : List Addr} {H : Hp} {h h' : Heap} (g : Gone S h h') (hS : ∀ b ∈ S, H b = none) (x : HOk P w H h) : HOk P w H h' := fun b u e => by
  have ne : ∀ c u, H c = some u → c ∉ S := fun c u q z => by rw [hS c z] at q; cases q
  refine (x b u e).stay (fun c v hc q => g.keep c v ?_ q) (fun _ q => q) fun _ _ q => q
  rcases hc with rfl | hc
  · exact ne _ _ e
  · exact ne _ _ hc
end
theorem ObjOk.live {P : Program} {w : World} {H : Hp} {h : Heap} {a : Addr} {o : HO} (x : ObjOk P w H h a o) : ∃ u, h.get? a = some u := by
  cases o with
  | lst xs => exact let ⟨_, _, _, _, e⟩ := x; ⟨_, e⟩
  | tup xs => exact let ⟨_, _, _, _, e, _⟩ := x; ⟨_, e⟩
  | dK kvs => exact let ⟨_, _, _, _, _, _, _, e, _⟩ := x; ⟨_, e⟩
  | dT kvs => exact let ⟨_, _, _, _, _, _, _, e, _⟩ := x; ⟨_, e⟩
  | set S n => exact let ⟨_, _, _, _, e, _⟩ := x; ⟨_, e⟩
  | ins C dx fs => exact let ⟨_, _, _, e, _⟩ := x; ⟨_, e⟩
  | own y => exact x
  | xd fs => exact let ⟨_, ⟨_, _, _, e, _⟩, _⟩ := x; ⟨_, e⟩
  | rng lo hi => exact let ⟨_, _, _, e⟩ := x; ⟨_, e⟩
  | frz ob u => exact ⟨_, x.1⟩
  | tbl ps => exact ⟨_, x⟩
  | met f y => exact ⟨_, x⟩
  | ext φ => exact x.2.1
theorem HOk.gone {P : Program} {w : World} {H : Hp} {h : Heap} {a : Addr} (x : HOk P w H h) (e : h.get? a = none) : H a = none := by
  cases q : H a with
  | none => rfl
  | some o =>
    obtain ⟨u, z⟩ := (x a o q).live
    rw [e] at z; cases z

/-! ### out of a def's frame -/
section
variable {X : Cx} {pins : List (Addr × Obj)} {σ : St} {H H' : Hp} {s s' : Shared} {e : Addr} {cls : Value} {Q : Unit → Shared → Prop} {E : Value → Shared → Prop}
/-- a def's body, no comprehension's block -/
structure Own (X : Cx) : Prop where
  stk : X.stack = X.env :: X.outer
  frm : X.env.frame = some X.env.locals
  ex : X.ex = []
theorem Inv.flown (I : Inv X pins σ H s) (F : Fly X.prog X.w X.stack H s H' e cls s') : Inv X pins σ H' s' := by
  obtain ⟨hh, g, d, t, os'⟩ := s'
  obtain rfl : os' = s.os := F.os
  exact I.call (h' := hh) (g' := g) (d' := d) (t' := t) (ch := []) F.un F.hok F.bare fun b z => absurd z (by simp)
/-- behind the frame: of the entry's state -/
theorem Gone.fly {S : List Addr} {h' : Heap} {T : Addr} (O : Own X) (I : Inv X pins σ H' s') (g : Gone S s'.heap h') (sub : ∀ b ∈ S, (X.s₀.heap.get? b = none ∧ H' b = none) ∨ b ∈ frs X.stack)
    (ne : X.s₀.heap.get? e = none) (fe : H' e = none) (tr : Trc h' e T cls) (nT : X.s₀.heap.get? T = none) (fT : H' T = none) : Fly X.prog X.w X.outer X.H₀ X.s₀ H' e cls { s' with heap := h' } := by
  have fr : ∀ b ∈ S, H' b = none := fun b hb => (sub b hb).elim (fun z => z.2) (I.stkFree b)
  have base := O.ex ▸ I.base
  have outS : ∀ b o, X.s₀.heap.get? b = some o → b ∉ X.fs → b ∉ S := fun b o eb nb hb => by
    rcases sub b hb with z | z
    · rw [z.1] at eb; cases eb
    · rcases List.mem_cons.mp (I.stkSub b z) with q | q
      · exact absurd (Nat.lt_of_lt_of_le (Heap.lt_size eb) I.ok.above) (by rw [q]; exact Nat.lt_irrefl _)
      · exact nb q
  have atF : ∀ b o, X.s₀.heap.get? b = some o → X.H₀ b = none → b ∈ X.fs → ∃ sl, h'.get? b = some { o with slots := sl } := fun b o eb n hb => by
    obtain ⟨sl, e1⟩ := base.slot b o eb n hb (by simp)
    obtain ⟨_, o', eo, hd⟩ := I.ok.funs.mem hb
    rw [eb] at eo; cases eo
    obtain ⟨sl', e2⟩ := g.slot b _ e1 hd
    exact ⟨sl', e2⟩
  refine ⟨I.os, I.bare, ⟨fun b o eb n hb _ => g.keep b o (outS b o eb hb) (base.keep b o eb n hb (by simp)), fun b o eb n hb _ => atF b o eb n hb, base.free, fun b o eb _ => ?_, base.tups, base.frzs, base.tbls⟩, g.hok fr I.hok, ne, fe, T, tr, nT, fT⟩
  by_cases hb : b ∈ X.fs
  · obtain ⟨sl, z⟩ := atF b o eb (I.ok.frf b hb) hb
    exact ⟨_, z⟩
  · obtain ⟨o1, e1⟩ := base.there b o eb (by simp)
    exact ⟨o1, g.keep b o1 (outS b o eb hb) e1⟩
/-- frames have no fields -/
theorem not_frame {h h' : Heap} {base : Heap} {l : List Env} {T : Addr} {o : Obj} {ts : Array Value} (hl : h.FunFrames base l) (up : h.UpToSlots h') (e : h'.get? T = some o) (hd : o.data = .fields ts) : T ∉ frs l := fun hb => by
  obtain ⟨_, o', eo, nd⟩ := hl.mem hb
  obtain ⟨sl, e2⟩ := up T o' eo nd
  rw [e] at e2
  cases e2
  exact nd ts hd
/-- an exception of a callee leaves this frame too -/
theorem fly_on (O : Own X) (I : Inv X pins σ H s) (F : Fly X.prog X.w X.stack H s H' e cls s') (q : ∀ h', Fly X.prog X.w X.outer X.H₀ X.s₀ H' e cls { s' with heap := h' } → Q () { s' with heap := h' }) :
    wpAny (model X.prog X.w) X.A (leaving X.env (.ref e)) Q E s' := by
  have J := I.flown F
  obtain ⟨T, ⟨oe, vs, oT, ts, a0, he, hc, h0, hd, h1, ne, hT, hdT, h3⟩, nT, fT⟩ := F.tr
  have old : ∀ b, s.heap.get? b = none → X.s₀.heap.get? b = none := fun b z => by
    cases q : X.s₀.heap.get? b with
    | none => rfl
    | some o =>
      obtain ⟨o', e'⟩ := I.base.there b o q (by rw [O.ex]; simp)
      rw [z] at e'; cases e'
  have frames : s'.heap.FunFrames (lessOf (e :: T :: frs X.stack) s'.heap) X.stack := less_frames (fun b hb => List.mem_cons_of_mem _ (List.mem_cons_of_mem _ hb)) J.stack
  have fl : Heap.FlyingW (lessOf (e :: T :: frs X.stack) s'.heap) (X.env :: X.outer) e cls a0 s'.heap :=
    ⟨less_stays _ _, less_in (by simp), O.stk ▸ frames, oe, vs, T, oT, ts, he, ⟨hc, h0⟩, hd, h1, less_in (by simp), ne, hT, hdT, h3⟩
  refine wpAny_leaves_onW (O.stk ▸ I.ok.frames) O.frm fl fun h' f' up => q h' ?_
  obtain ⟨st, _, _, oe', vs', T', oT', ts', he', ⟨hc', h0'⟩, hd', h1', nb', ne', hT', hdT', h3'⟩ := f'
  have g : Gone (e :: T :: frs X.stack) s'.heap h' := ⟨fun b o hb eb => st b o ((less_out hb).trans eb), up⟩
  have tw : T' = T ∨ s'.heap.get? T' = none := by
    by_cases hm : T' ∈ e :: T :: frs X.stack
    · rcases List.mem_cons.mp hm with z | z
      · exact absurd z ne'
      · rcases List.mem_cons.mp z with z | z
        · exact .inl z
        · exact absurd z (not_frame J.stack up hT' hdT')
    · exact .inr ((less_out hm).symm.trans nb')
  refine g.fly (T := T') O J (fun b hb => ?_) (old e F.new) F.free ⟨oe', vs', oT', ts', a0, he', hc', h0', hd', h1', ne', hT', hdT', h3'⟩ ?_ ?_
  · rcases List.mem_cons.mp hb with z | z
    · exact .inl (z ▸ ⟨old e F.new, F.free⟩)
    · rcases List.mem_cons.mp z with z | z
      · exact .inl (z ▸ ⟨old T nT, fT⟩)
      · exact .inr z
  · rcases tw with z | z
    · exact z ▸ old T nT
    · cases q : X.s₀.heap.get? T' with
      | none => rfl
      | some o =>
        obtain ⟨o', e'⟩ := J.base.there T' o q (by rw [O.ex]; simp)
        rw [z] at e'; cases e'
  · rcases tw with z | z
    · exact z ▸ fT
    · exact J.hok.gone z
/-- an exception that was made here leaves this frame -/
theorem fly_off {args : List Value} {h1 : Heap} (O : Own X) (I : Inv X pins σ H s) (M : Heap.MadeExcOf s.heap h1 e cls args) (q : ∀ h', Fly X.prog X.w X.outer X.H₀ X.s₀ H e cls { s with heap := h' } → Q () { s with heap := h' }) :
    wpAny (model X.prog X.w) X.A (leaving X.env (.ref e)) Q E { s with heap := h1 } := by
  have old : ∀ b, s.heap.get? b = none → X.s₀.heap.get? b = none := fun b z => by
    cases q : X.s₀.heap.get? b with
    | none => rfl
    | some o =>
      obtain ⟨o', e'⟩ := I.base.there b o q (by rw [O.ex]; simp)
      rw [z] at e'; cases e'
  have frames : s.heap.FunFrames (lessOf (frs X.stack) s.heap) X.stack := less_frames (fun b hb => hb) I.stack
  refine wpAny_leaves_madeW (s := { s with heap := h1 }) (h := s.heap) (base := lessOf (frs X.stack) s.heap) (O.stk ▸ I.ok.frames) O.frm (less_stays _ _) (O.stk ▸ frames) M fun h' t f' _ _ up1 => q h' ?_
  obtain ⟨st, nb, _, oe', vs', T', oT', ts', he', ⟨hc', h0'⟩, hd', h1', nb', ne', hT', hdT', h3'⟩ := f'
  have up : s.heap.UpToSlots h' := (Heap.UpToSlots.of_keeps M.keeps).trans up1
  have g : Gone (frs X.stack) s.heap h' := ⟨fun b o hb eb => st b o ((less_out hb).trans eb), up⟩
  have tn : s.heap.get? T' = none := (less_out (not_frame I.stack up hT' hdT')).symm.trans nb'
  exact g.fly (T := T') O I (fun b hb => .inr hb) (old e M.new) (I.hok.gone M.new) ⟨oe', vs', oT', ts', _, he', hc', h0', hd', h1', ne', hT', hdT', h3'⟩ (old T' tn) (I.hok.gone tn)
end
end L2
end
section
/-! raise C(..), C an own class below ValueError; defs that may raise. -/
namespace L2
open PySem PySem.Spec PyProof.Rows
set_option maxHeartbeats 4000000
set_option Elab.async false
set_option linter.unusedVariables false

abbrev mroV : List Value := [.type "ValueError", .type "Exception", .type "BaseException", .type "object"]
/-- an own class below ValueError, behind the top: bm the classes above it -/
structure Exc (K : PySem.W.Frag) (C : Addr) (bm : List Value) : Prop where
  ob : ∃ (nm q : Str) (N : Addr) (bs : List Value) (hdct : Bool) (sn : List Str) (sub : List Value) (ab : Bool) (col : Option Bool) (dd : Option Addr) (k0 k1 k2 k3 k5 : Option Value),
    K.lookup C = some (excClassObj nm q C N bs bm hdct sn sub ab col dd k0 k1 k2 k3 k5 "ValueError.__new__") ∧ PySem.W.nsOkIn K N = true ∧ PySem.W.nsIn K N "__init__" = some none
  tl : PySem.W.tailIn K mroV bm = true
  bb : bm.contains (.type "BaseException") = true
  vb : bm.contains (.type "ValueError") = true

/-! ### contexts of defs that may raise -/
section
variable {P : Program} {w : World} {K : PySem.W.Frag} {mg : Str → Option Value} {base : Heap} {N : List Str} {qual : Str} {scope : Scope} {f : Addr} {cd : Value} {A : Around} {outer : List Env} {s : Shared} {H : Hp} {E : XK}
theorem own_cx {CX : CXT} : Own (cxOf CX P w K mg base N qual scope f cd A outer s H E) := ⟨rfl, rfl, rfl⟩
/-- what a def's body wants of an exception is that it leaves the frame -/
structure Lvs (X : Cx) (E : XK) : Prop where
  own : Own X
  xe : ∀ e s', wpAny (model X.prog X.w) X.A (leaving X.env e) (fun _ s'' => CXF X.prog X.w X.outer X.H₀ X.s₀ E e s'') (fun e' s'' => CXF X.prog X.w X.outer X.H₀ X.s₀ E e' s'') s' → X.xe e s'
theorem lvs_cx : Lvs (cxOf (CXF P w) P w K mg base N qual scope f cd A outer s H E) E := ⟨own_cx, fun _ _ h => h⟩
end
section
variable {X : Cx} {E E' : XK}
theorem Lvs.pass (L : Lvs X E) (imp : ∀ c a H, E' c a H → E c a H) : Passes (CXF X.prog X.w) X E' := by
  intro pins σ H s v s' I h
  obtain ⟨e, cls, H', rfl, F, q⟩ := h
  exact L.xe _ _ (fly_on L.own I F fun h' F' => ⟨e, cls, H', rfl, F', imp _ _ _ q⟩)
def tRaise (E : XK) (C : Addr) (ta : TA) : TS := fun _ σ H => ta σ H fun vs H1 => vs.length ≤ sizeLine ∧ ∀ e, H1 e = none → E (.ref C) (some e) H1
theorem ps_raise {C : Addr} {bm : List Value} {x : Str} {np cpos pos : Pos} {a : Expr} {es : List Expr} {ta : TA} (L : Lvs X E) (hc : X.calm = true) (hg : Gl X x) (hm : X.mg x = some (.ref C)) (ex : Exc X.K C bm) (ha : PA X (a :: es) ta)
    (he : starEach (a :: es) X.env = (false, eval a X.env) :: starEach es X.env := by rfl) (hpl : (backTo cpos (starEach (a :: es) X.env)).any (·.1) = false := by rfl) (hd : (x == ("__debug__" : Str)) = false := by decide) :
    PS X (.Raise (some (.Call (.Name x np) (a :: es) [] cpos)) none pos) (tRaise E C ta) := by
  intro pins s σ H D I h
  obtain ⟨⟨nm, q, N, bs, hdct, sn, sub, ab, col, dd, k0, k1, k2, k3, k5, lk, nok, nin⟩, tl, bb, vb⟩ := ex
  have KB := I.ok.mod.kin
  have ns : X.base.Ns N (X.base.nsMap N) := .of_isNs (PySem.W.isNs_of_in KB nok)
  refine wpAny_Raise_call_subT (nm := nm) (q := q) (N := N) (bs := bs) (bm := bm) (hdct := hdct) (sn := sn) (sub := sub) (ab := ab) (col := col) (dd := dd) (k0 := k0) (k1 := k1) (k2 := k2) (k3 := k3) (k5 := k5) (mN := X.base.nsMap N)
    F.excBase_ValueError bb (I.ok.hd hc) hpl (PySem.W.nsMap_none_of_in KB nok nin) (ld_glob I hg hm ⟨rfl, ?_⟩ hd)
  have go := ha cpos pins s σ H _ I h
  rw [he] at go ⊢
  refine Calls.evalArgs_plain (thn go fun us s1 ⟨vs, H1, I1, r, hz, q1⟩ => ?_)
  refine ⟨rfl, by rw [← r.length]; exact hz, I1.kIn _ _ lk, ns.keeps I1.bk, PySem.W.tail_of_in I1.kIn tl, fun h' e M => L.xe _ _ ?_⟩
  exact fly_off L.own I1 M fun h2 F => ⟨e, .ref C, H1, rfl, F, q1 e (I1.hok.gone M.new)⟩
end
end L2
end
section
/-! An exception that is caught in a def's frame. -/
namespace L2
open PySem PySem.Spec PyProof.Rows
set_option maxHeartbeats 4000000
set_option maxRecDepth 100000
set_option Elab.async false
set_option linter.unusedVariables false
section
variable {X : Cx} {pins : List (Addr × Obj)} {σ : St} {H H' : Hp} {s s' : Shared} {e T : Addr} {cls : Value} {S : List Addr} {h' : Heap}
/-- a heap that differs at most in the exception, its traceback and the frames -/
theorem Gone.on (I : Inv X pins σ H s) (F : Fly X.prog X.w X.stack H s H' e cls s') (g : Gone S s'.heap h') (sub : ∀ b ∈ S, (s.heap.get? b = none ∧ H' b = none) ∨ b ∈ frs X.stack)
    (tr : Trc h' e T cls) (nT : s.heap.get? T = none) (fT : H' T = none) : Fly X.prog X.w X.stack H s H' e cls { s' with heap := h' } := by
  have J := I.flown F
  have fr : ∀ b ∈ S, H' b = none := fun b hb => (sub b hb).elim (fun z => z.2) (J.stkFree b)
  have outS : ∀ b o, s.heap.get? b = some o → b ∉ frs X.stack → b ∉ S := fun b o eb nb hb => by
    rcases sub b hb with z | z
    · rw [z.1] at eb; cases eb
    · exact nb z
  have atF : ∀ b o, s.heap.get? b = some o → H b = none → b ∈ frs X.stack → ∃ sl, h'.get? b = some { o with slots := sl } := fun b o eb n hb => by
    obtain ⟨sl, e1⟩ := F.un.slot b o eb n hb (by simp)
    obtain ⟨_, o', eo, hd⟩ := I.stack.mem hb
    rw [eb] at eo; cases eo
    obtain ⟨sl', e2⟩ := g.slot b _ e1 hd
    exact ⟨sl', e2⟩
  refine ⟨F.os, F.bare, ⟨fun b o eb n hb _ => g.keep b o (outS b o eb hb) (F.un.keep b o eb n hb (by simp)), fun b o eb n hb _ => atF b o eb n hb, F.un.free, fun b o eb _ => ?_, F.un.tups, F.un.frzs, F.un.tbls⟩, g.hok fr F.hok, F.new, F.free, T, tr, nT, fT⟩
  by_cases hb : b ∈ frs X.stack
  · obtain ⟨sl, z⟩ := atF b o eb (I.stkFree b hb) hb
    exact ⟨_, z⟩
  · obtain ⟨o1, e1⟩ := F.un.there b o eb (by simp)
    exact ⟨o1, g.keep b o1 (outS b o eb hb) e1⟩
/-- what is chosen as the base -/
theorem fly_base (I : Inv X pins σ H s) (F : Fly X.prog X.w X.stack H s H' e cls s') : ∃ (T : Addr) (a0 : Value), Heap.FlyingW (lessOf (e :: T :: frs X.stack) s'.heap) X.stack e cls a0 s'.heap ∧
    ∀ h', Heap.FlyingW (lessOf (e :: T :: frs X.stack) s'.heap) X.stack e cls a0 h' → s'.heap.UpToSlots h' → Fly X.prog X.w X.stack H s H' e cls { s' with heap := h' } := by
  have J := I.flown F
  obtain ⟨T, ⟨oe, vs, oT, ts, a0, he, hc, h0, hd, h1, ne, hT, hdT, h3⟩, nT, fT⟩ := F.tr
  refine ⟨T, a0, ⟨less_stays _ _, less_in (by simp), less_frames (fun b hb => List.mem_cons_of_mem _ (List.mem_cons_of_mem _ hb)) J.stack, oe, vs, T, oT, ts, he, ⟨hc, h0⟩, hd, h1, less_in (by simp), ne, hT, hdT, h3⟩, fun h' f' up => ?_⟩
  obtain ⟨st, _, _, oe', vs', T', oT', ts', he', ⟨hc', h0'⟩, hd', h1', nb', ne', hT', hdT', h3'⟩ := f'
  have g : Gone (e :: T :: frs X.stack) s'.heap h' := ⟨fun b o hb eb => st b o ((less_out hb).trans eb), up⟩
  have tw : T' = T ∨ s'.heap.get? T' = none := by
    by_cases hm : T' ∈ e :: T :: frs X.stack
    · rcases List.mem_cons.mp hm with z | z
      · exact absurd z ne'
      · rcases List.mem_cons.mp z with z | z
        · exact .inl z
        · exact absurd z (not_frame J.stack up hT' hdT')
    · exact .inr ((less_out hm).symm.trans nb')
  refine g.on (T := T') I F (fun b hb => ?_) ⟨oe', vs', oT', ts', a0, he', hc', h0', hd', h1', ne', hT', hdT', h3'⟩ ?_ ?_
  · rcases List.mem_cons.mp hb with z | z
    · exact .inl (z ▸ ⟨F.new, F.free⟩)
    · rcases List.mem_cons.mp z with z | z
      · exact .inl (z ▸ ⟨nT, fT⟩)
      · exact .inr z
  · rcases tw with z | z
    · exact z ▸ nT
    · cases q : s.heap.get? T' with
      | none => rfl
      | some o =>
        obtain ⟨o', e'⟩ := F.un.there T' o q (by simp)
        rw [z] at e'; cases e'
  · rcases tw with z | z
    · exact z ▸ fT
    · exact J.hok.gone z
variable {A : Around} {M : Model} {E : Value → Shared → Prop} {Q : Unit → Shared → Prop}
/-- it is seen here -/
theorem fly_seen (O : Own X) (I : Inv X pins σ H s) (F : Fly X.prog X.w X.stack H s H' e cls s') (hA : A.frames = some X.stack)
    (q : ∀ h', Fly X.prog X.w X.stack H s H' e cls { s' with heap := h' } → Q () { s' with heap := h' }) :
    wpAny M A (noteFrame (.ref e) X.env) (fun _ s2 => wpAny M A (setFlight (.ref e) none) Q E s2) E s' := by
  obtain ⟨T, a0, fl, back⟩ := fly_base I F
  rw [O.stk] at fl hA
  refine wpAny_looks_onW hA O.frm fl fun h1 held up1 => wpAny_landsW (s := { s' with heap := h1 }) held fun h2 fl2 up2 => q h2 (back h2 ?_ (up1.trans up2))
  rw [O.stk]
  exact fl2
/-- its flight is over -/
theorem fly_land (I : Inv X pins σ H s) (F : Fly X.prog X.w X.stack H s H' e cls s') (q : ∀ h', Fly X.prog X.w X.stack H s H' e cls { s' with heap := h' } → Q () { s' with heap := h' }) :
    wpAny M A (setFlight (.ref e) none) Q E s' := by
  obtain ⟨T, a0, fl, back⟩ := fly_base I F
  exact lands_againW fl fun h2 fl2 up2 => q h2 (back h2 fl2 up2)
end
end L2
end
section
/-! Own classes held against an exception. -/
namespace L2
open PySem PySem.Spec PyProof.Rows
set_option maxHeartbeats 4000000
set_option maxRecDepth 100000
set_option Elab.async false
set_option linter.unusedVariables false
section
variable {M : Model} {A : Around} {E : Value → Shared → Prop} {h : Heap} {g : Array GenState} {d : Drawn} {t : Nat} {os : OsState} {e C C0 : Addr} {oe : Obj} {Q : Bool → Shared → Prop}
variable {nm q : Str} {N : Addr} {bs bm : List Value} {hdct : Bool} {sn : List Str} {sub : List Value} {ab : Bool} {col : Option Bool} {dd : Option Addr} {k0 k1 k2 k3 k5 : Option Value} {ni : String}
variable {nm' q' : Str} {N' : Addr} {bs' bm' : List Value} {hdct' : Bool} {sn' : List Str} {sub' : List Value} {ab' : Bool} {col' : Option Bool} {dd' : Option Addr} {k0' k1' k2' k3' k5' : Option Value} {ni' : String}
theorem match_own (hC : h.get? C = some (excClassObj nm q C N bs bm hdct sn sub ab col dd k0 k1 k2 k3 k5 ni)) (h0 : h.get? C0 = some (excClassObj nm' q' C0 N' bs' bm' hdct' sn' sub' ab' col' dd' k0' k1' k2' k3' k5' ni'))
    (hb : bm'.contains (.type "BaseException") = true) (he : h.get? e = some oe) (hcls : oe.cls = .ref C) (hin : (Value.ref C :: bm).contains (.ref C0) = true) (hq : Q true ⟨h, g, d, t, os⟩) :
    wpAny M A (excMatches (.ref e) (.ref C0)) Q E ⟨h, g, d, t, os⟩ := by
  have hB : (Value.ref C0 :: bm').contains (.type "BaseException") = true := by rw [List.contains_cons, hb, Bool.or_true]
  have f := tc_notTuple
  obtain ⟨c, dc, dt, sl⟩ := oe
  simp only at hcls
  subst hcls
  have s0 : ∀ {Q : Bool → Shared → Prop} {E : Value → Shared → Prop}, Q true ⟨h, g, d, t, os⟩ → wpAny M A (isSubtype (.ref C0) (.type "BaseException")) Q E ⟨h, g, d, t, os⟩ := fun z => wpAny_isSubtype_exc h0 (by rw [hB]; exact z)
  have s1 : ∀ {Q : Bool → Shared → Prop} {E : Value → Shared → Prop}, Q true ⟨h, g, d, t, os⟩ → wpAny M A (isSubtype (.ref C) (.ref C0)) Q E ⟨h, g, d, t, os⟩ := fun z => wpAny_isSubtype_exc hC (by rw [hin]; exact z)
  wp_walk using s0, s1
  exact hq
end
section
variable {prog : Program} {w : World} {A : Around} {E : Value → Shared → Prop} {K : PySem.W.Frag} {h : Heap} {g : Array GenState} {d : Drawn} {t : Nat} {os : OsState} {e C : Addr} {dc : Option Addr} {vs : Array Value} {sl : Array (Option Value)}
/-- the attribute `__class__` of an exception -/
theorem exc_class {Q : Option Value → Shared → Prop} (X : K.In h) (he : h.get? e = some ⟨.ref C, dc, .fields vs, sl⟩)
    (l1 : PySem.W.findIn K (.ref C) "__getattribute__" = some (some (.builtin "BaseException.__getattribute__"))) (l2 : PySem.W.findIn K (.ref C) "__class__" = some (some (.builtin "object.__class__")))
    (l3 : PySem.W.findIn K (.ref C) "__getattr__" = some none) (l4 : PySem.W.subIn K (.ref C) (.type "BaseException") = some true) (l5 : PySem.W.subIn K (.ref C) (.type "object") = some true)
    (q : Q (some (.ref C)) ⟨h, g, d, t + 1, os⟩) : wpAny (model prog w) A (getAttr? (.ref e) "__class__") Q E ⟨h, g, d, t, os⟩ := by
  have L1 : ∀ {A} {Q : Option Value → Shared → Prop} {E : Value → Shared → Prop} {t}, Q (some (.builtin "BaseException.__getattribute__")) ⟨h, g, d, t, os⟩ → wpAny (model prog w) A (typeLookup (.ref C) "__getattribute__") Q E ⟨h, g, d, t, os⟩ := fun z => (PySem.W.looks_findIn X l1).at z
  have L2 : ∀ {A} {Q : Option Value → Shared → Prop} {E : Value → Shared → Prop} {t}, Q (some (.builtin "object.__class__")) ⟨h, g, d, t, os⟩ → wpAny (model prog w) A (typeLookup (Obj.mk (.ref C) dc (.fields vs) sl).cls "__class__") Q E ⟨h, g, d, t, os⟩ := fun z => (PySem.W.looks_findIn X l2).at z
  have L3 : ∀ {A} {Q : Option Value → Shared → Prop} {E : Value → Shared → Prop} {t}, Q none ⟨h, g, d, t, os⟩ → wpAny (model prog w) A (typeLookup (Obj.mk (.ref C) dc (.fields vs) sl).cls "__getattr__") Q E ⟨h, g, d, t, os⟩ := fun z => (PySem.W.looks_findIn X l3).at z
  have bnd := F.attr_ValueError.ga.bind (.ref e)
  have L4 : ∀ {A} {Q : Bool → Shared → Prop} {E : Value → Shared → Prop} {t}, Q true ⟨h, g, d, t, os⟩ → wpAny (model prog w) A (isSubtype (Obj.mk (.ref C) dc (.fields vs) sl).cls (.type "BaseException")) Q E ⟨h, g, d, t, os⟩ := fun z => (PySem.W.looks_subIn X l4).at z
  wp_walk using L1, L3
  refine codeAny_call_builtin F.attr_ValueError.ga.plain F.entry_bexc_ga ?_
  have ar := F.args_bexc_ga (.ref e) (.str (Str.ofString "__class__") t)
  unfold checkBuiltinCall
  rw [show builtinKind "BaseException.__getattribute__" = some .slot by decide +kernel, show splitId "BaseException.__getattribute__" = some ("BaseException", "__getattribute__") by decide +kernel]
  have f5 := F.typeOf_object_class
  have f6 := F.slot_gs_get.lookup
  have f7 := F.slot_gs_set.lookup
  have f8 := F.owner_object_class
  have L5 : ∀ {A} {Q : Bool → Shared → Prop} {E : Value → Shared → Prop} {t}, Q true ⟨h, g, d, t, os⟩ → wpAny (model prog w) A (isSubtype (Obj.mk (.ref C) dc (.fields vs) sl).cls (.type (".".intercalate ("object.__class__".cutAt '.').dropLast))) Q E ⟨h, g, d, t, os⟩ := fun z => by
    rw [f8]; exact (PySem.W.looks_subIn X l5).at z
  wp_walk using L4, L2
  refine codeAny_call_builtin F.slot_gs_get.plain F.entry_gs_get ?_
  refine F.slot_gs_get.check _ _ _ _ _ _ _ _ f5 (F.args_gs_get _ _ _) ?_
  wp_walk using L5
  refine ⟨Code.quiet_builtin _ (by decide +kernel), ?_⟩
  refine codeAny_builtin F.entry_object_class ?_
  wp_walk
  exact q
end
end L2
end
section
/-! isinstance of an exception; try .. except C as e. -/
namespace L2
open PySem PySem.Spec PyProof.Rows
set_option maxHeartbeats 4000000
set_option maxRecDepth 100000
set_option Elab.async false
set_option linter.unusedVariables false
/-- what the tables tell of an own class below ValueError -/
structure ExcF (K : PySem.W.Frag) (C : Addr) (bm : List Value) : Prop extends Exc K C bm where
  l1 : PySem.W.findIn K (.ref C) "__getattribute__" = some (some (.builtin "BaseException.__getattribute__"))
  l2 : PySem.W.findIn K (.ref C) "__class__" = some (some (.builtin "object.__class__"))
  l3 : PySem.W.findIn K (.ref C) "__getattr__" = some none
  l4 : PySem.W.subIn K (.ref C) (.type "BaseException") = some true
  l5 : PySem.W.subIn K (.ref C) (.type "object") = some true
/-- an exception of class C lies there -/
def IsExc (e C : Addr) (h : Heap) : Prop := ∃ dc vs sl, h.get? e = some ⟨.ref C, dc, .fields vs, sl⟩
abbrev ExcO (e C : Addr) : HO := .ext (IsExc e C)
theorem excO_ok {P : Program} {w : World} {H : Hp} {h : Heap} {e C : Addr} (x : IsExc e C h) : ObjOk P w H h e (ExcO e C) := by
  refine ⟨x, ?_, fun h1 h2 ⟨dc, vs, sl, z⟩ k => ⟨dc, vs, sl, k _ z⟩⟩
  obtain ⟨dc, vs, sl, z⟩ := x
  exact ⟨_, z⟩
theorem kitx_exc {K : PySem.W.Frag} {e C : Addr} {bm : List Value} (F : ExcF K C bm) : PySem.W.KitX K (.ref e) (.ref C) (IsExc e C) := by
  obtain ⟨⟨⟨nm, q, N, bs, hdct, sn, sub, ab, col, dd, k0, k1, k2, k3, k5, lk, _, _⟩, _, _, _⟩, l1, l2, l3, l4, l5⟩ := F
  refine ⟨fun M h X ⟨dc, vs, sl, z⟩ A Q E s k hq => ?_, fun M h X _ A Q E s k hq => ?_, fun h tp dd' its n sl X htp => ?_, fun {prog w A E Q s} X ⟨dc, vs, sl, z⟩ hq => ?_⟩
  · obtain ⟨hp, g, d, t, os⟩ := s
    have z' := k _ _ z
    wp_walk
    exact hq
  · obtain ⟨hp, g, d, t, os⟩ := s
    have z' := k _ _ (X _ _ lk)
    wp_walk
    exact hq
  · refine Bool.eq_false_iff.mpr fun w => ?_
    have e : C = tp := Value.ref.inj (beq_iff_eq.mp w)
    subst e
    have z := congrArg Obj.cls (Option.some.inj ((X _ _ lk).symm.trans htp))
    exact absurd (show Value.type "type" = Value.type "tuple" from z) (by decide)
  · obtain ⟨hp, g, d, t, os⟩ := s
    exact exc_class X z l1 l2 l3 l4 l5 hq
section
variable {X : Cx}
theorem call_isiE : CallR X (.builtin "isinstance") (fun xs H Q => ∃ e C bm y b, xs = [.ref e, y] ∧ H e = some (ExcO e C) ∧ ExcF X.K C bm ∧ ((∃ C0, y = .ref C0 ∧ PySem.W.kitOne X.K (.ref C) (.ref C0) = some b) ∨ ∃ T, y = .ty T ∧ PySem.W.kitOne X.K (.ref C) (.type T) = some b) ∧ Q (.bl b) H) := by
  intro pins s σ H xs us Q I r h
  obtain ⟨e, C, bm, y, b, rfl, he, F, hy, q⟩ := h
  obtain ⟨u, c, rfl, rx, rc⟩ := vals2 r
  cases (show u = Value.ref e from rx)
  have ie : IsExc e C s.heap := (show ObjOk X.prog X.w H s.heap e (ExcO e C) from I.hok e _ he).1
  rcases hy with ⟨C0, rfl, k⟩ | ⟨T, rfl, k⟩
  · cases (show c = Value.ref C0 from rc)
    exact PySem.W.kia_one (kitx_exc F) I.kIn ie k (fun z => nomatch z) fun tk => ⟨.bl b, H, I.tok tk, rfl, q⟩
  · cases (show c = Value.type T from rc)
    exact PySem.W.kia_one (kitx_exc F) I.kIn ie k (fun z => nomatch z) fun tk => ⟨.bl b, H, I.tok tk, rfl, q⟩
end
end L2
end
section
/-! try: .. except C as e: .. -/
namespace L2
open PySem PySem.Spec PyProof.Rows
set_option maxHeartbeats 4000000
set_option maxRecDepth 100000
set_option Elab.async false
set_option linter.unusedVariables false
theorem ns_one {h : Heap} {a : Addr} {m m2 : Str → Option Value} {x : Str} (p : h.Ns a m) (q : h.Ns a m2) : m x = m2 x := by
  obtain ⟨o, es, ep, ho, hd, _, hf⟩ := p
  obtain ⟨o', es', ep', ho', hd', _, hf'⟩ := q
  rw [ho] at ho'; cases ho'
  rw [hd] at hd'; cases hd'
  rw [← hf, ← hf']
/-- within an except suite -/
abbrev Cx.held (X : Cx) (A : Around) (E : Value → Shared → Prop) : Cx := { X with A := A, calm := false, xe := E }
section
variable {X : Cx} {pins : List (Addr × Obj)} {σ : St} {H H' : Hp} {s s' : Shared} {e C : Addr} {cls : Value} {A : Around} {E : Value → Shared → Prop}
theorem Inv.held (I : Inv X pins σ H s) (hA : A.frames = some X.stack) : Inv (X.held A E) pins σ H s :=
  ⟨⟨I.ok.mod, I.ok.kind, I.ok.glob, I.ok.blt, I.ok.above, I.ok.inj, I.ok.has, I.ok.cab, fun z => absurd z Bool.false_ne_true, hA, I.ok.stk, I.ok.exf, I.ok.bs, I.ok.bsz, I.ok.noex, I.ok.exfs, I.ok.funs, I.ok.frf⟩,
    I.os, I.bare, I.base, I.loc, I.cell, I.free, I.freeC, I.pin, I.hok, I.len⟩
theorem Inv.unheld (I : Inv (X.held A E) pins σ H s) (ok : X.Ok) : Inv X pins σ H s := ⟨ok, I.os, I.bare, I.base, I.loc, I.cell, I.free, I.freeC, I.pin, I.hok, I.len⟩
/-- the exception that was caught is known from now on -/
theorem Inv.caught (O : Own X) (I : Inv X pins σ H s) (F : Fly X.prog X.w X.stack H s H' e (.ref C) s') : Inv X pins σ (upd H' e (ExcO e C)) s' := by
  have J := I.flown F
  obtain ⟨T, ⟨oe, vs, oT, ts, a0, he, hc, h0, hd, h1, ne, hT, hdT, h3⟩, nT, fT⟩ := F.tr
  obtain ⟨c, dc, dt, sl⟩ := oe
  simp only at hc hd
  subst hc hd
  have live : ∀ b o, s.heap.get? b = some o → b ≠ e := fun b o z q => by rw [q, F.new] at z; cases z
  have old : ∀ b o, X.s₀.heap.get? b = some o → b ≠ e := fun b o z => by
    obtain ⟨o', z'⟩ := I.base.there b o z (by rw [O.ex]; simp)
    exact live b o' z'
  have trk : ∀ b o, H' b = some o → b ≠ e := fun b o z q => by rw [q, F.free] at z; cases z
  refine ⟨J.ok, J.os, J.bare, ⟨J.base.keep, J.base.slot, fun b o z n hx => ?_, J.base.there, fun b xs z => ?_, fun b o u z => ?_, fun b ps z => ?_⟩, J.loc, J.cell, ?_, fun x c z => ?_, fun p hp => ?_, fun b u z => ?_, J.len⟩
  · rw [upd_ne (old b o z)]; exact J.base.free b o z n hx
  · have q := J.base.tups b xs z
    rw [upd_ne (trk b _ q)]; exact q
  · have q := J.base.frzs b o u z
    rw [upd_ne (trk b _ q)]; exact q
  · obtain ⟨more, q⟩ := J.base.tbls b ps z
    exact ⟨more, by rw [upd_ne (trk b _ q)]; exact q⟩
  · obtain ⟨m, ⟨o, _, _, ho, _⟩, _⟩ := I.loc
    rw [upd_ne (live _ o ho)]; exact J.free
  · obtain ⟨v, o, ho, _⟩ := I.cell x c z
    rw [upd_ne (live _ o ho)]; exact J.freeC x c z
  · obtain ⟨z, n, r⟩ := J.pin p hp
    obtain ⟨z1, _⟩ := I.pin p hp
    exact ⟨z, by rw [upd_ne (live _ _ z1)]; exact n, r⟩
  · by_cases q : b = e
    · subst q
      rw [upd_same] at z
      cases z
      exact excO_ok ⟨_, _, _, he⟩
    · rw [upd_ne q] at z
      refine (J.hok b u z).stay (fun _ _ _ z => z) (fun c z => ?_) fun c xs z => ?_
      · rw [upd_ne (trk c _ z)]; exact z
      · rw [upd_ne (trk c _ z)]; exact z
/-- a name goes out of the frame -/
theorem Inv.gone {k : Nat} {n : Str} {h' : Heap} {m : Str → Option Value} {v : Option Value} {t' : Nat} (I : Inv X pins σ H s) (nd : X.N.Nodup) (hk : X.N[k]? = some n) (hm : s.heap.Ns X.env.locals m)
    (hn : h'.Ns X.env.locals fun y => if y = n then v else m y) (sb : Heap.SameBut X.env.locals s.heap h') : Inv X pins (σ.set k none) H { s with heap := h', toks := t' } := by
  have kp : ∀ b o, b ≠ X.env.locals → s.heap.get? b = some o → h'.get? b = some o := fun b o hb z => sb.extBut b o hb z
  have old : ∀ b o, X.s₀.heap.get? b = some o → b ≠ X.env.locals := fun b o z => Nat.ne_of_lt (Nat.lt_of_lt_of_le (Heap.lt_size z) I.ok.above)
  have trk : ∀ b u, H b = some u → b ≠ X.env.locals := fun b u z q => by rw [q, I.free] at z; cases z
  have there : ∀ b o, s.heap.get? b = some o → ∃ o', h'.get? b = some o' := fun b o z => by
    by_cases q : b = X.env.locals
    · obtain ⟨o', _, _, ho', _⟩ := hn
      exact ⟨o', q ▸ ho'⟩
    · exact ⟨o, kp b o q z⟩
  refine ⟨I.ok, I.os, I.bare, ⟨fun b o z n hb hx => kp b o (old b o z) (I.base.keep b o z n hb hx), fun b o z n hb hx => ?_, I.base.free, fun b o z hx => ?_, I.base.tups, I.base.frzs, I.base.tbls⟩, ⟨_, hn, fun i x v' h1 h2 h3 => ?_⟩, fun x c z => ?_, I.free, I.freeC, fun p hp => ?_, fun b u z => ?_, ?_⟩
  · obtain ⟨sl, e1⟩ := I.base.slot b o z n hb hx
    exact ⟨sl, kp b _ (old b o z) e1⟩
  · obtain ⟨o', e1⟩ := I.base.there b o z hx
    exact there b o' e1
  · have ik : i ≠ k := fun q => by
      rw [q, List.getElem?_set_self'] at h2
      cases z : σ[k]? with
      | none => rw [z] at h2; cases h2
      | some _ => rw [z] at h2; cases h2
    rw [List.getElem?_set_ne (Ne.symm ik)] at h2
    have xn : x ≠ n := fun q => ik (nodup_ix nd (q ▸ h1) hk)
    obtain ⟨m2, hm2, hl⟩ := I.loc
    obtain ⟨u, ru, lk⟩ := hl i x v' h1 h2 h3
    refine ⟨u, ru, ?_⟩
    rcases lk with ⟨a, b⟩ | ⟨a, c, b, o, ho, hd⟩
    · refine .inl ⟨a, ?_⟩
      show (if x = n then v else m x) = some u
      rw [if_neg xn, ns_one hm hm2]
      exact b
    · exact .inr ⟨a, c, b, o, kp c o (I.cne x c b) ho, hd⟩
  · obtain ⟨v, o, ho, hd⟩ := I.cell x c z
    exact ⟨v, o, kp c o (I.cne x c z) ho, hd⟩
  · obtain ⟨z, n, ne, r⟩ := I.pin p hp
    exact ⟨kp _ _ ne z, n, ne, r⟩
  · refine (I.hok b u z).stay (fun c w hc q => kp c w ?_ q) (fun _ q => q) fun _ _ q => q
    rcases hc with q | q
    · exact q ▸ trk b u z
    · exact trk c _ q
  · rw [List.length_set]; exact I.len
end
/-- a suite that may raise: how it ends, and how an exception leaves it -/
abbrev TB := St → Hp → (Hp → Prop) → XK → Prop
def PB (X : Cx) (body : List Stmt) (tb : TB) : Prop := ∀ (pins : List (Addr × Obj)) (s : Shared) (σ : St) (H : Hp) (Q : Hp → Prop) (E : XK), Inv X pins σ H s → tb σ H Q E →
  wpAny (model X.prog X.w) X.A (execs body X.env) (fun f s1 => f = .next ∧ ∃ H1, Inv X pins σ H1 s1 ∧ Q H1) (fun v s1 => CXF X.prog X.w X.stack H s E v s1) s
def tTry (K : PySem.W.Frag) (C0 : Addr) (k : Nat) (tb : TB) (ts : TS) : TS := fun D σ H => tb σ H (fun H1 => D.nx σ H1) fun c ea H1 => ∃ C bm e, c = .ref C ∧ ea = some e ∧ ExcF K C bm ∧ (Value.ref C :: bm).contains (.ref C0) = true ∧
  ts { nx := fun σ' H' => D.nx (σ'.set k none) H', rt := fun _ _ => False } (σ.set k (some (.ref e))) (upd H1 e (ExcO e C))
section
variable {X : Cx} {body suite : List Stmt} {b₀ : Stmt} {tb : TB} {ts : TS} {x n : Str} {np hp pos : Pos} {C0 : Addr} {bm0 : List Value} {k : Nat}
theorem ps_try (O : Own X) (nd : X.N.Nodup) (hk : X.N[k]? = some n) (hkl : X.env.scope.names.lookup n = some .local) (hg : Gl X x) (hm : X.mg x = some (.ref C0)) (e0 : Exc X.K C0 bm0)
    (hb : PB X body tb) (hs : ∀ A E, PSs (X.held A E) (b₀ :: suite) ts) (hd : (x == ("__debug__" : Str)) = false := by decide) :
    PS X (.Try body [.ExceptHandler (some (.Name x np)) (some n) (b₀ :: suite) hp] [] [] pos) (tTry X.K C0 k tb ts) := by
  intro pins s σ H D I h
  refine wpAny_Try_except (wpAny_mono (hb pins s σ H _ _ I h) (fun f s1 ⟨ef, H1, I1, q1⟩ => ?_) fun v s1 hv => ?_)
  · subst ef
    exact wpAny_pure ⟨σ, H1, I1, q1⟩
  · obtain ⟨e, cls, H1, rfl, F, C, bm, e', rfl, ee, ex, hin, q⟩ := hv
    cases ee
    refine fly_seen O I F I.ok.frames fun h1 F1 => ?_
    have hA : (X.A.mark (some (.ref e))).frames = some X.stack := I.ok.frames
    have J1 := I.flown F1
    refine wpAny_handleBy_cons (codeAny_handlers_test (Calls.Name_function_global I.ok.kind hg (Calls.loadGlobal_global (by rw [I.ok.glob]; exact J1.mod.glob.keeps J1.bk) hm ?_) hd)) (by intro z; cases z)
    obtain ⟨⟨nm, q', N, bs, hdct, sn, sub, ab, col, dd, k0, k1, k2, k3, k5, lk, _, _⟩, _, _, _⟩ := ex.toExc
    obtain ⟨⟨nm', q'', N', bs', hdct', sn', sub', ab', col', dd', k0', k1', k2', k3', k5', lk', _, _⟩, _, bb', _⟩ := e0
    obtain ⟨T, ⟨oe, vs, oT, tts, a0, he, hcl, _⟩, _, _⟩ := F1.tr
    refine match_own (J1.kIn _ _ lk) (J1.kIn _ _ lk') bb' he hcl hin ?_
    refine codeAny_handlers_suite_as (fly_land I F1 fun h2 F2 => ?_)
    have J2 := I.caught O F2
    refine store_ok2 J2 nd hk (.inl hkl) (v := .ref e) rfl (fun s3 I3 _ => ?_) (.inr hkl)
    refine wpAny_mono (hs (X.A.mark (some (.ref e))) (fun _ _ => False) pins s3 _ _ _ (I3.held hA) q) (fun f s4 h4 => ?_) fun _ _ z => False.elim z
    cases f with
    | next =>
      obtain ⟨σ', H4, I4, q4⟩ := h4
      have I5 := I4.unheld I.ok
      obtain ⟨m, hm4, _⟩ := id I5.loc
      exact wpAny_nameGoes_keeps hkl hm4 (by rw [I.ok.kind]; rfl) fun h' v hn sb => ⟨_, _, I5.gone nd hk hm4 hn sb, q4⟩
    | brk => exact (let ⟨_, _, _, z⟩ := h4; False.elim z)
    | cont => exact (let ⟨_, _, _, z⟩ := h4; False.elim z)
    | ret u => exact (let ⟨_, _, _, _, _, z⟩ := h4; False.elim z)
end
end L2
end
section
/-! Things that lie fixed; a thing that runs when called; `call()` as the body of a try. -/
namespace L2
open PySem PySem.Spec PyProof.Rows
set_option maxHeartbeats 4000000
set_option maxRecDepth 100000
set_option Elab.async false
set_option linter.unusedVariables false
/-- the object o at a, for good -/
def Fz (a : Addr) (o : Obj) : HO := .frz o (.ext fun h => h.get? a = some o)
theorem fz_ok {P : Program} {w : World} {H : Hp} {h : Heap} {a : Addr} {o : Obj} (e : h.get? a = some o) : ObjOk P w H h a (Fz a o) := ⟨e, e, ⟨_, e⟩, fun _ _ q k => k _ q⟩
theorem fz_get {P : Program} {w : World} {H : Hp} {h : Heap} {a : Addr} {o : Obj} (x : HOk P w H h) (e : H a = some (Fz a o)) : h.get? a = some o := (x a _ e).1
/-- called without arguments, the function at f runs so, in every state that has H over base -/
def Runs (P : Program) (w : World) (K : PySem.W.Frag) (mg : Str → Option Value) (base : Heap) (k : Nat) (f : Addr) (H : Hp) (Q : VK) (E : XK) : Prop :=
  ∀ (A : Around) (outer : List Env) (s : Shared), Room k A → Env0 P w K mg base A outer s H → codeAny (model P w) A (.call (.ref f) ⟨[], []⟩) (CR (CXF P w) outer P w H s Q E) s
def tbCall (X : Cx) (k i : Nat) : TB := fun σ H Q E => ∃ f o fd, σ[i]? = some (some (.ref f)) ∧ H f = some (Fz f o) ∧ o.data = .func fd ∧ Runs X.prog X.w X.K X.mg X.base k f H (fun _ H1 => Q H1) E
theorem keeps_F {M : Model} {f : Addr} {o : Obj} {fd : FuncData} (hd : o.data = .func fd) (h : Heap) (e : h.get? f = some o) : ∃ k, (k = Keeper.frame ∨ k = Keeper.machine ∨ k = Keeper.boundFrame) ∧ PySem.W.Looks M h (keeperOf (.ref f)) k := by
  obtain ⟨c, dc, dt, sl⟩ := o
  simp only at hd
  subst hd
  exact ⟨.frame, .inl rfl, (PySem.W.Looks.ld (part := none) e).andThen .now⟩
theorem pb_call {X : Cx} {k i : Nat} {x : Str} {p cpos pos : Pos} (hr : Room k X.A) (hN : X.N[i]? = some x) (hv : X.env.scope.names.lookup x = some .local) (hd : (x == ("__debug__" : Str)) = false := by decide)
    (hs : swapsWith (.Call (.Name x p) [] [] cpos) none pos.line X.env = pure false := by rfl) : PB X [.Expr (.Call (.Name x p) [] [] cpos) pos] (tbCall X k i) := by
  intro pins s σ H Q E I h
  obtain ⟨f, o, fd, e1, e2, e3, run⟩ := h
  obtain ⟨m, hn, hl⟩ := id I.loc
  obtain ⟨u, r, l⟩ := hl i x _ hN e1 (.inl hv)
  obtain rfl : u = .ref f := r
  have hm : m x = some (.ref f) := by
    rcases l with ⟨_, z⟩ | ⟨z, _⟩
    · exact z
    · have z : X.env.scope.names.lookup x = some .cell ∨ X.env.scope.names.lookup x = some .free := z
      rw [hv] at z
      rcases z with z | z <;> cases z
  refine wpAny_execs_cons (wpAny_Expr_any (wpAny_Call_Name_kw (wpAny_Name (wpAny_loadName_local I.ok.kind hv hn hm ?_) hd)) I.quiet hs)
  refine PySem.W.callWith_of (P := fun h => h.get? f = some o) rfl (keeps_F e3) (PyProof.Rows.evalArgs_nil3 ⟨fz_get I.hok e2, ?_⟩)
  refine wpAny_call (codeAny_mono (run X.A X.stack s hr I.env0) fun rs s' hq => ?_)
  cases rs with
  | error e => exact hq
  | ok fl =>
    cases fl with
    | ret u =>
      obtain ⟨v, H1, I1, _, q⟩ := I.after hq
      exact wpAny_execs_nil ⟨rfl, H1, I1, q⟩
    | next => exact False.elim hq
    | brk => exact False.elim hq
    | cont => exact False.elim hq
end L2
end
section
/-! A lambda without parameters runs. -/
namespace L2
open PySem PySem.Spec PyProof.Rows
set_option maxHeartbeats 4000000
set_option maxRecDepth 100000
set_option Elab.async false
set_option linter.unusedVariables false
/-- the body's context -/
def lamCx (P : Program) (w : World) (K : PySem.W.Frag) (mg : Str → Option Value) (base : Heap) (N : List Str) (qual : Str) (scope : Scope) (cl : List (Str × Addr)) (f : Addr) (cd : Value) (A : Around) (outer : List Env) (s : Shared) (H : Hp) (E : XK) : Cx where
  prog := P
  w := w
  K := K
  mg := mg
  base := base
  A := A.deeper (PySem.W.envX qual scope s.heap.objs.size f cd cl)
  N := N
  s₀ := s
  H₀ := H
  env := PySem.W.envX qual scope s.heap.objs.size f cd cl
  outer := outer
  stack := PySem.W.envX qual scope s.heap.objs.size f cd cl :: outer
  ex := []
  calm := true
  fn := fun _ => false
  pn := []
  xe := fun e s' => wpAny (model P w) (A.deeper (PySem.W.envX qual scope s.heap.objs.size f cd cl)) (leaving (PySem.W.envX qual scope s.heap.objs.size f cd cl) e) (fun _ s'' => CXF P w outer H s E e s'') (fun e' s'' => CXF P w outer H s E e' s'') s'
/-- the cells that it holds, over base: the names N with the values σ -/
structure Cap (base : Heap) (scope : Scope) (cl : List (Str × Addr)) (N : List Str) (σ : St) : Prop where
  inj : ∀ x y c, cl.lookup x = some c → cl.lookup y = some c → x = y
  has : ∀ x, scope.names.lookup x = some .free → ∃ c, cl.lookup x = some c
  cell : ∀ x c, cl.lookup x = some c → ∃ v, base.IsCell c v
  val : ∀ (i : Nat) (x : Str) (v : V), N[i]? = some x → σ[i]? = some (some v) → scope.names.lookup x = some .free ∧ ∃ u c, RelV v u ∧ cl.lookup x = some c ∧ base.IsCell c (some u)
  len : σ.length = N.length
structure LamS (scope : Scope) : Prop where
  kind : scope.kind = .function
  co : scope.isCoroutine = false
  gen : scope.isGenerator = false
  nocell : ∀ y ∈ scope.names, y.2 ≠ .cell
section
variable {P : Program} {w : World} {K : PySem.W.Frag} {mg : Str → Option Value} {base : Heap} {N : List Str} {qual : Str} {scope : Scope} {cl : List (Str × Addr)} {f : Addr} {cd : Value} {A : Around} {outer : List Env} {s : Shared} {H : Hp} {E : XK} {σ : St}
theorem own_lam : Own (lamCx P w K mg base N qual scope cl f cd A outer s H E) := ⟨rfl, rfl, rfl⟩
theorem lvs_lam : Lvs (lamCx P w K mg base N qual scope cl f cd A outer s H E) E := ⟨own_lam, fun _ _ h => h⟩
theorem lam_start {h1 : Heap} {tk : Nat} (S : LamS scope) (C : Cap base scope cl N σ) (hd : A.handled = none) (e0 : Env0 P w K mg base A outer s H) (kp : ∀ b o, s.heap.get? b = some o → h1.get? b = some o) (hn : h1.Ns s.heap.objs.size fun _ => none) :
    Inv (lamCx P w K mg base N qual scope cl f cd A outer s H E) [] σ H { s with heap := h1, toks := tk } := by
  have noA : ∀ b : Addr, b ∉ (lamCx P w K mg base N qual scope cl f cd A outer s H E).ex := fun b z => absurd (show b ∈ ([] : List Addr) from z) (by simp)
  have bc : ∀ {c : Addr} {v : Option Value}, base.IsCell c v → h1.IsCell c v ∧ H c = none := fun {c v} ⟨o, ho, hd⟩ => ⟨⟨o, kp _ _ (e0.bs c o ho).1, hd⟩, (e0.bs c o ho).2⟩
  refine ⟨⟨e0.mod, S.kind, rfl, rfl, Nat.le_refl _, C.inj, fun y hy => ?_, fun y c z _ => absurd z Bool.false_ne_true, fun _ => hd, Around.frames_deeper e0.frames, .inr ⟨rfl, rfl⟩, fun b z => absurd z (noA b), e0.bs, e0.bsz, fun b _ _ => noA b, fun b z => absurd z (noA b), e0.funs, e0.frf⟩,
    rfl, e0.bare, Un.kept kp, ⟨_, hn, fun i y v h1 h2 h3 => ?_⟩, fun y c h => ?_, e0.hok.fresh (Nat.le_refl _), fun y c h => ?_, fun p hp => absurd (show p ∈ ([] : List (Addr × Obj)) from hp) (by simp), e0.hok.kept kp, C.len⟩
  · have hy : scope.names.lookup y = some .cell ∨ scope.names.lookup y = some .free := hy
    rcases hy with hy | hy
    · exact absurd rfl (S.nocell _ (PySem.mem_of_lookup hy))
    · exact C.has y hy
  · obtain ⟨fr, u, c, rv, hc, hcell⟩ := C.val i y v h1 h2
    exact ⟨u, rv, .inr ⟨.inr fr, c, hc, (bc hcell).1⟩⟩
  · obtain ⟨v, hv⟩ := C.cell y c h
    exact ⟨v, (bc hv).1⟩
  · obtain ⟨v, hv⟩ := C.cell y c h
    exact (bc hv).2
theorem runs_lam {k : Nat} {name : Str} {params : Arguments} {body : Expr} {pm ctv : Value} {c' : Addr} {oc : Obj} {vs : Array Value} {t : Nat} {te : TE} {Q : VK} (hf : H f = some (Fz f (PySem.W.kla_obj name qual params body scope cl pm c' ctv))) (hc : H c' = some (Fz c' oc))
    (hv : oc.data = .fields vs) (hq : vs[1]? = some (.str qual t)) (S : LamS scope) (C : Cap base scope cl N σ)
    (hb : bindArgs (PySem.W.kla_fn name qual params body scope cl pm (.ref c') ctv) ⟨[], []⟩ = pure [])
    (hbody : ∀ A outer s, Room k (A.deeper (PySem.W.envX qual scope s.heap.objs.size f (.ref c') cl)) → PE (lamCx P w K mg base N qual scope cl f (.ref c') A outer s H E) body te) (q : te σ H Q) : Runs P w K mg base (k + 1) f H Q E := by
  intro A outer s hr e0
  refine PySem.W.kla_callFunE hr.depth (fz_get e0.hok hf) rfl S.co S.gen rfl ⟨c', oc, vs, t, rfl, fz_get e0.hok hc, hv, hq⟩ ?_
  rw [hb]
  refine wpAny_pure (wpAny_newFunctionEnv S.nocell (by intro y hy; simp at hy) (fun h1 hns hsb => ?_) S.kind)
  have kp : ∀ b o, s.heap.get? b = some o → h1.get? b = some o := fun b o e => hsb.extBut b o (Nat.ne_of_lt (Heap.lt_size e)) (Heap.get?_push_of_some _ e)
  refine ⟨(e0.mod.nolimit.keeps fun b o e => (e0.bs b o e).1).keeps kp, ?_⟩
  show codeAny _ _ (.expr body (PySem.W.envX qual scope s.heap.objs.size f (.ref c') cl)) _ _
  have I := lam_start (P := P) (w := w) (K := K) (mg := mg) (N := N) (qual := qual) (f := f) (cd := .ref c') (E := E) (tk := s.toks + ([] : List (Str × Value)).length) S C hr.hd e0 kp hns
  refine PySem.W.kla_codeExpr (wpAny_mono (hbody A outer s (hr.deeper _) [] _ σ H Q I q) (fun v s' ⟨x, H1, I1, r, q1⟩ => ?_) fun e s' hs => hs)
  exact ⟨x, H1, I1.os, I1.bare, I1.base, I1.hok, r, q1⟩
end
end L2
end
section
/-! A lambda is made and handed on. -/
namespace L2
open PySem PySem.Spec PyProof.Rows
set_option maxHeartbeats 4000000
set_option maxRecDepth 100000
set_option Elab.async false
set_option linter.unusedVariables false
theorem triples_ok : ∀ l : List (Pos × Addr), TriplesOk (triples l)
  | [] => trivial
  | (_, _) :: r => triples_ok r
theorem among_some {pos : Pos} : ∀ {l : List (Pos × Addr)} {cv : Value}, codeAmong pos (triples l) = some cv → ∃ x ∈ l, cv = .ref x.2
  | [], _, h => by cases h
  | (p, c) :: r, cv, h => by
    simp only [triples, rawInt, codeAmong] at h
    split at h
    · cases h
      exact ⟨_, List.mem_cons_self, rfl⟩
    · obtain ⟨x, hx, e⟩ := among_some h
      exact ⟨x, List.mem_cons_of_mem _ hx, e⟩
/-- the table at T: each code object in it is known, by the name q -/
def Tab (q : Str) (H : Hp) (T : Addr) : Prop := ∃ l : List (Pos × Addr), H T = some (.tbl (triples l).toArray) ∧ ∀ x ∈ l, ∃ oc vs t, H x.2 = some (Fz x.2 oc) ∧ oc.data = .fields vs ∧ vs[1]? = some (.str q t)
theorem Tab.same {q : Str} {H H' : Hp} {T : Addr} (x : Tab q H T) (s : Same H H') : Tab q H' T :=
  let ⟨l, e, h⟩ := x
  ⟨l, s _ _ e, fun y hy => let ⟨oc, vs, t, a, b⟩ := h y hy; ⟨oc, vs, t, s _ _ a, b⟩⟩
theorem Tab.empty {q : Str} {H : Hp} {T : Addr} (e : H T = some (.tbl #[])) : Tab q H T := ⟨[], e, fun _ h => nomatch h⟩
abbrev lamQ (X : Cx) : Str := X.env.qual ++ "<lambda>"
structure LamAt (X : Cx) (T : Addr) (params : Arguments) (body : Expr) (scope : Scope) (H : Hp) (f : Addr) (H' : Hp) : Prop where
  new : H f = none
  grow : ∀ b u, b ≠ T → H b = some u → H' b = some u
  tab : Tab (lamQ X) H' T
  ob : ∃ cl pm c' ctv oc vs t, H' f = some (Fz f (PySem.W.kla_obj "<lambda>" (lamQ X) params body scope cl pm c' ctv)) ∧ H' c' = some (Fz c' oc) ∧ oc.data = .fields vs ∧ vs[1]? = some (.str (lamQ X) t) ∧
    (∀ x c, cl.lookup x = some c → X.env.cells.lookup x = some c) ∧ ∀ x, (x, NameKind.free) ∈ scope.names → ∃ c, cl.lookup x = some c
def tLam (X : Cx) (T : Addr) (params : Arguments) (body : Expr) (scope : Scope) : TE := fun σ H Q => Tab (lamQ X) H T ∧ ∀ f H', LamAt X T params body scope H f H' → Q (.ref f) H'
/-- the module of the built-ins, as the globals know it -/
def BltAt (mg : Str → Option Value) (base : Heap) : Prop := ∃ bm o, mg "__builtins__" = some (.ref bm) ∧ bm ≠ builtinsNs ∧ bm ≠ mainGlobals ∧ base.get? bm = some o ∧ o.cls = .type "module" ∧ o.dict = some builtinsNs ∧ o.data = .plain
section
variable {X : Cx} {T c : Addr} {params : Arguments} {body : Expr} {scope : Scope} {pos : Pos}
theorem pe_lam (hcode : X.env.code = .ref c) (C : PySem.W.CodeHd X.base c T) (B : BltAt X.mg X.base) (hcap : ∀ y ∈ scope.names, y.2 = .free → X.env.scope.names.lookup y.1 = some .cell ∨ X.env.scope.names.lookup y.1 = some .free)
    (hdef : defaultsOf params X.env = ([], []) := by rfl) : PE X (.Lambda params body scope pos) (tLam X T params body scope) := by
  intro pins s σ H Q I ⟨⟨l, hT, hl⟩, h⟩
  obtain ⟨cl, hcl, c1, c2⟩ := clos_of (env := X.env) (scope := scope) fun y hy hk => I.ok.has y.1 (hcap y hy hk)
  obtain ⟨bm, ob, b1, b2, b3, b4, b5⟩ := B
  have notT : ∀ {b : Addr} {o : Obj}, X.base.get? b = some o → b ≠ T := fun {b o} e z => by
    have := (I.bs b o e).2
    rw [z, hT] at this; cases this
  have hgT : mainGlobals ≠ T := by
    obtain ⟨o, _, _, ho, _⟩ := I.ok.mod.glob
    exact notT ho
  have bl : s.heap.BuiltinsAt X.mg T := ⟨bm, ob, b1, b2, b3, notT b4, I.bk _ _ b4, b5⟩
  have hP : s.heap.get? T = some (PySem.W.tabObj (triples l).toArray) := I.hok T _ hT
  have glob := I.ok.mod.glob.keeps I.bk
  refine PySem.W.kla_eval hdef ?_
  cases am : codeAmong pos (triples l) with
  | some cv =>
    obtain ⟨x, hx, rfl⟩ := among_some am
    obtain ⟨oc, vs, t, o1, o2, o3⟩ := hl x hx
    refine PySem.W.kla_makeFunctionHit hcl I.ok.glob glob hcode (C.keeps I.bk) hP (by simpa using triples_ok l) (by simpa using am) bl fun ctv h' tk kp hs => ?_
    have fresh : H h'.objs.size = none := I.hok.fresh hs
    have J := I.laid (h' := h'.push (PySem.W.kla_obj "<lambda>" (lamQ X) params body scope cl ((X.mg "__name__").getD .none) x.2 ctv)) (t' := tk) (a := h'.objs.size) (o := Fz h'.objs.size (PySem.W.kla_obj "<lambda>" (lamQ X) params body scope cl ((X.mg "__name__").getD .none) x.2 ctv))
      (fun b u e => Heap.get?_push_of_some _ (kp b u e)) hs (fz_ok (Heap.get?_push_size _ rfl))
    have same : Same H (upd H h'.objs.size (Fz h'.objs.size (PySem.W.kla_obj "<lambda>" (lamQ X) params body scope cl ((X.mg "__name__").getD .none) x.2 ctv))) := fun b u e => by
      rw [upd_ne fun z => by rw [z, fresh] at e; cases e]; exact e
    exact ⟨.ref h'.objs.size, _, J, rfl, h _ _ ⟨fresh, fun b u _ e => same b u e, Tab.same ⟨l, hT, hl⟩ same, cl, _, x.2, ctv, oc, vs, t, upd_same, same _ _ o1, o2, o3, c1, c2⟩⟩
  | none =>
    refine PySem.W.kla_makeFunction hcl I.ok.glob glob hcode (C.keeps I.bk) hP (by simpa using triples_ok l) (by simpa using am) hgT bl fun c' ctv h' tk hx hge hlt hrec htb => ?_
    obtain ⟨_, oc, vs, t, e2, hoc, hd, hv⟩ := hrec
    cases e2
    obtain ⟨fo, hfo⟩ : ∃ fo, fo = PySem.W.kla_obj "<lambda>" (lamQ X) params body scope cl ((X.mg "__name__").getD .none) c' ctv := ⟨_, rfl⟩
    have eT : (triples l).toArray ++ #[rawInt pos.line, rawInt pos.col, .ref c'] = (triples (l ++ [(pos, c')])).toArray := by rw [triples_append]; simp
    rw [eT] at htb
    have lv : ∀ b u, H b = some u → b < s.heap.objs.size := fun b u e => (I.hok b u e).lt
    have hTs : T < s.heap.objs.size := lv _ _ hT
    have cT : c' ≠ T := Nat.ne_of_gt (Nat.lt_of_lt_of_le hTs hge)
    have hsf : s.heap.objs.size ≤ h'.objs.size := Nat.le_trans hge (Nat.le_of_lt hlt)
    have fT : h'.objs.size ≠ T := Nat.ne_of_gt (Nat.lt_of_lt_of_le hTs hsf)
    have cf : c' ≠ h'.objs.size := Nat.ne_of_lt hlt
    obtain ⟨H', hH'⟩ : ∃ H', H' = upd (upd (upd H T (.tbl (triples (l ++ [(pos, c')])).toArray)) c' (Fz c' oc)) h'.objs.size (Fz h'.objs.size fo) := ⟨_, rfl⟩
    have aF : H' h'.objs.size = some (Fz h'.objs.size fo) := by rw [hH', upd_same]
    have aC : H' c' = some (Fz c' oc) := by rw [hH', upd_ne cf, upd_same]
    have aT : H' T = some (.tbl (triples (l ++ [(pos, c')])).toArray) := by rw [hH', upd_ne fT.symm, upd_ne cT.symm, upd_same]
    have aO : ∀ b, b < s.heap.objs.size → b ≠ T → H' b = H b := fun b hb n => by rw [hH', upd_ne (Nat.ne_of_lt (Nat.lt_of_lt_of_le hb hsf)), upd_ne (Nat.ne_of_lt (Nat.lt_of_lt_of_le hb hge)), upd_ne n]
    have grow : ∀ b u, b ≠ T → H b = some u → H' b = some u := fun b u n e => (aO b (lv b u e) n).trans e
    have old : ∀ b o, b ≠ T → s.heap.get? b = some o → (h'.push fo).get? b = some o := fun b o n e => Heap.get?_push_of_some _ (hx b o n e)
    have un : ∀ fs, Un fs [] H H' s.heap (h'.push fo) := fun fs => by
      have nT : ∀ {b : Addr}, H b = none → b ≠ T := fun {b} n z => by rw [z, hT] at n; cases n
      refine ⟨fun b o e n _ _ => old b o (nT n) e, fun b o e n _ _ => ⟨o.slots, old b o (nT n) e⟩, fun b o e n _ => (aO b (Heap.lt_size e) (nT n)).trans n, fun b o e _ => ?_, fun b xs e => ?_, fun b o u e => ?_, fun b ps e => ?_⟩
      · by_cases z : b = T
        · exact ⟨_, z ▸ Heap.get?_push_of_some _ htb⟩
        · exact ⟨_, old b o z e⟩
      · exact grow b _ (fun z => by rw [z, hT] at e; cases e) e
      · exact grow b _ (fun z => by rw [z, hT] at e; cases e) e
      · by_cases z : b = T
        · subst z
          rw [hT] at e
          cases e
          exact ⟨#[rawInt pos.line, rawInt pos.col, .ref c'], by rw [aT, eT]⟩
        · exact ⟨#[], by rw [grow b _ z e]; simp⟩
    have hok : HOk X.prog X.w H' (h'.push fo) := fun b u e => by
      by_cases z1 : b = h'.objs.size
      · subst z1
        rw [aF] at e
        cases e
        exact fz_ok (Heap.get?_push_size _ (by rw [hfo]; rfl))
      · by_cases z2 : b = c'
        · subst z2
          rw [aC] at e
          cases e
          exact fz_ok (Heap.get?_push_of_some _ hoc)
        · by_cases z3 : b = T
          · subst z3
            rw [aT] at e
            cases e
            exact Heap.get?_push_of_some _ htb
          · rw [hH', upd_ne z1, upd_ne z2, upd_ne z3] at e
            refine (I.hok b u e).stay (fun d v hd q => old d v ?_ q) (fun d z => grow d _ (fun q => by rw [q, hT] at z; cases z) z) fun d xs z => grow d _ (fun q => by rw [q, hT] at z; cases z) z
            rcases hd with q | q
            · rw [q]; exact z3
            · intro y
              rw [y, hT] at q; cases q
    have J : Inv X pins σ H' { s with heap := h'.push fo, toks := tk } := I.un (un _) hok
    have tab : Tab (lamQ X) H' T := ⟨_, aT, fun x hx => by
      rcases List.mem_append.mp hx with hx | hx
      · obtain ⟨oc2, vs2, t2, o1, o2⟩ := hl x hx
        exact ⟨oc2, vs2, t2, grow _ _ (fun q => by rw [q, hT] at o1; cases o1) o1, o2⟩
      · obtain rfl : x = (pos, c') := by simpa using hx
        exact ⟨oc, vs, t, aC, hd, hv⟩⟩
    rw [← hfo]
    exact ⟨.ref h'.objs.size, H', J, rfl, h _ _ ⟨I.hok.fresh hsf, grow, tab, cl, _, c', ctv, oc, vs, t, by rw [aF, hfo], aC, hd, hv, c1, c2⟩⟩
end
end L2
end
section
/-! f(lambda: ..), f one that calls what it is given: over a greater base, in which the cells lie. -/
namespace L2
open PySem PySem.Spec PyProof.Rows
set_option maxHeartbeats 4000000
set_option maxRecDepth 100000
set_option Elab.async false
set_option linter.unusedVariables false
theorem less_size : ∀ (S : List Addr) (h : Heap), (lessOf S h).objs.size = h.objs.size
  | [], _ => rfl
  | a :: S, h => by
    show ((lessOf S h).update a _).objs.size = _
    rw [Heap.size_update, less_size S h]
open Classical in
noncomputable def outOf (base : Heap) (cl : List (Str × Addr)) (h : Heap) : List Addr := (List.range h.objs.size).filter fun a => decide (base.get? a = none ∧ ∀ x, cl.lookup x ≠ some a)
noncomputable def baseOf (base : Heap) (cl : List (Str × Addr)) (h : Heap) : Heap := lessOf (outOf base cl h) h
section
variable {base h : Heap} {cl : List (Str × Addr)} {b : Addr} {o : Obj}
theorem base_out (hb : base.get? b = none) (hc : ∀ x, cl.lookup x ≠ some b) (hs : b < h.objs.size) : b ∈ outOf base cl h :=
  List.mem_filter.mpr ⟨List.mem_range.mpr hs, by simpa using ⟨hb, hc⟩⟩
theorem base_some (e : (baseOf base cl h).get? b = some o) : h.get? b = some o ∧ ((∃ u, base.get? b = some u) ∨ ∃ x, cl.lookup x = some b) := by
  obtain ⟨n, e⟩ := less_some e
  refine ⟨e, ?_⟩
  cases q : base.get? b with
  | some u => exact .inl ⟨u, rfl⟩
  | none =>
    refine .inr ?_
    apply Classical.byContradiction
    intro z
    exact n (base_out q (fun x y => z ⟨x, y⟩) (Heap.lt_size e))
theorem base_in (e : h.get? b = some o) (hi : (∃ u, base.get? b = some u) ∨ ∃ x, cl.lookup x = some b) : (baseOf base cl h).get? b = some o := by
  unfold baseOf
  rw [less_out]
  · exact e
  · intro z
    have z := (List.mem_filter.mp z).2
    have z : base.get? b = none ∧ ∀ x, cl.lookup x ≠ some b := by simpa using z
    rcases hi with ⟨u, q⟩ | ⟨x, q⟩
    · rw [z.1] at q; cases q
    · exact z.2 x q
end
section
variable {X : Cx} {pins : List (Addr × Obj)} {σ : St} {H : Hp} {s : Shared} {cl : List (Str × Addr)} {N : List Str} {js : List Nat} {scope : Scope}
theorem Inv.env1 (I : Inv X pins σ H s) (hfn : ∀ x, X.fn x = true) (c1 : ∀ x c, cl.lookup x = some c → X.env.cells.lookup x = some c) : Env0 X.prog X.w X.K X.mg (baseOf X.base cl s.heap) X.A X.stack s H := by
  have sub : ∀ b o, X.base.get? b = some o → (baseOf X.base cl s.heap).get? b = some o := fun b o e => base_in (I.bk b o e) (.inl ⟨o, e⟩)
  obtain ⟨mb, m1, m2⟩ := I.ok.mod.blt
  refine ⟨I.ok.frames, ⟨I.ok.mod.kin.keeps sub, I.ok.mod.glob.keeps sub, ⟨mb, m1.keeps sub, m2⟩, I.ok.mod.nolimit.keeps sub⟩, fun b o e => ?_, by unfold baseOf; rw [less_size]; exact Nat.le_refl _, ?_, I.stkFree, I.hok, I.bare⟩
  · obtain ⟨e1, z⟩ := base_some e
    refine ⟨e1, ?_⟩
    rcases z with ⟨u, q⟩ | ⟨x, q⟩
    · exact (I.bs b u q).2
    · exact I.freeC x b (c1 x b q)
  · refine less_frames (fun b hb => ?_) I.stack
    obtain ⟨hn, o, ho, _⟩ := I.stack.mem hb
    refine base_out hn (fun x q => ?_) (Heap.lt_size ho)
    rcases List.mem_cons.mp (I.stkSub b hb) with e | e
    · exact I.cne x b (c1 x b q) e
    · obtain ⟨_, o', ho', _⟩ := I.ok.funs.mem e
      exact absurd (Nat.lt_of_lt_of_le (Heap.lt_size ho') (I.ok.cab x b (hfn x) (c1 x b q))) (Nat.lt_irrefl _)
theorem Inv.cap (I : Inv X pins σ H s) (B : Blk X.env.scope X.N N 0 js scope) (c1 : ∀ x c, cl.lookup x = some c → X.env.cells.lookup x = some c) (c2 : ∀ x, (x, NameKind.free) ∈ scope.names → ∃ c, cl.lookup x = some c) :
    Cap (baseOf X.base cl s.heap) scope cl N (inner 0 js σ) := by
  have cell : ∀ {x : Str} {c : Addr} {v : Option Value}, cl.lookup x = some c → s.heap.IsCell c v → (baseOf X.base cl s.heap).IsCell c v := fun {x c v} e ⟨o, ho, hd⟩ => ⟨o, base_in ho (.inr ⟨x, e⟩), hd⟩
  refine ⟨fun x y c a b => I.ok.inj x y c (c1 x c a) (c1 y c b), fun x hx => c2 x (PySem.mem_of_lookup hx), fun x c e => ?_, fun i x v h1 h2 => ?_, ?_⟩
  · obtain ⟨v, hv⟩ := I.cell x c (c1 x c e)
    exact ⟨v, cell e hv⟩
  · obtain ⟨k, j, rfl, hk, hv⟩ := inner_get h2
    have h1' : (N.drop 0)[k]? = some x := by rw [List.getElem?_drop]; exact h1
    have hxm : x ∈ N.drop 0 := List.mem_of_getElem? h1'
    have hfree : scope.names.lookup x = some .free := B.fr x hxm
    have hj : X.N[j]? = some x := by
      rw [B.out, List.getElem?_map, hk] at h1'
      have hjl : j < X.N.length := B.js j (List.mem_of_getElem? hk)
      rw [List.getElem?_eq_getElem hjl]
      have e : X.N.getD j "" = x := by simpa using h1'
      rw [← e]
      simp [List.getD_eq_getElem?_getD, List.getElem?_eq_getElem hjl]
    have hcap := B.cap _ (PySem.mem_of_lookup hfree) rfl
    obtain ⟨m, hn, hl⟩ := I.loc
    obtain ⟨u, ru, lk⟩ := hl j x v hj hv (hcap.elim (fun z => .inr (.inl z)) fun z => .inr (.inr z))
    refine ⟨hfree, ?_⟩
    rcases lk with ⟨z, _⟩ | ⟨_, c, e, q⟩
    · exact absurd (show X.env.scope.names.lookup x = some .local from z) (by rcases hcap with y | y <;> (rw [y]; decide))
    · obtain ⟨c', e'⟩ := c2 x (PySem.mem_of_lookup hfree)
      have ec := c1 x c' e'
      rw [e] at ec
      cases ec
      exact ⟨u, c, ru, e', cell e' q⟩
  · unfold inner
    rw [List.length_append, List.length_replicate, List.length_map, B.len]
end
/-- what one promises that calls what it is given: R, Ec what is wanted of the thing's end and of its exceptions -/
def spRef (P : Program) (w : World) (K : PySem.W.Frag) (mg : Str → Option Value) (base : Heap) (k : Nat) (R : VK → VK) (Ec : VK → XK) : Sp := fun vs H Q _ =>
  ∃ f o fd, vs = [.ref f] ∧ H f = some (Fz f o) ∧ o.data = .func fd ∧ Runs P w K mg base k f H (R Q) (Ec Q)
def tRef (X : Cx) (T : Addr) (params : Arguments) (body : Expr) (scope : Scope) (js : List Nat) (R : VK → VK) (Ec : VK → XK) (te : XK → TE) : TE := fun σ H Q => Tab (lamQ X) H T ∧ ∀ f H', LamAt X T params body scope H f H' → te (Ec Q) (inner 0 js σ) H' (R Q)
section
variable {X : Cx} {T c r : Addr} {params : Arguments} {body : Expr} {scope : Scope} {x : Str} {p lpos pos : Pos} {k kr : Nat} {fd : FuncData} {px : Str} {R : VK → VK} {Ec : VK → XK} {te : XK → TE} {N : List Str} {js : List Nat} {qn : Str}
theorem pe_refuse (F : ∀ base, FnOk X.prog X.w X.K X.mg base CX0 kr r fd [px] (spRef X.prog X.w X.K X.mg base (k + 1) R Ec)) (hr : Room kr X.A) (hg : Gl X x) (hm : X.mg x = some (.ref r)) (hk : PySem.W.keepIn X.K (.ref r) = true) (hb : Binds X.K fd [px] [])
    (hfn : ∀ x, X.fn x = true) (hcode : X.env.code = .ref c) (C : PySem.W.CodeHd X.base c T) (Bl : BltAt X.mg X.base) (S : LamS scope) (B : Blk X.env.scope X.N N 0 js scope) (hqn : lamQ X = qn)
    (hbody : ∀ (base : Heap) (E : XK) (cl : List (Str × Addr)) (f : Addr) (cd : Value) (A : Around) (outer : List Env) (s : Shared) (H : Hp), Room k (A.deeper (PySem.W.envX qn scope s.heap.objs.size f cd cl)) →
      PE (lamCx X.prog X.w X.K X.mg base N qn scope cl f cd A outer s H E) body (te E))
    (hbind : ∀ cl pm cd ctv, bindArgs (PySem.W.kla_fn "<lambda>" qn params body scope cl pm cd ctv) ⟨[], []⟩ = pure [] := by intros; rfl)
    (hdef : defaultsOf params X.env = ([], []) := by rfl) (hdb : (x == ("__debug__" : Str)) = false := by decide) : PE X (.Call (.Name x p) [.Lambda params body scope lpos] [] pos) (tRef X T params body scope js R Ec te) := by
  intro pins s σ H Q I h
  subst hqn
  refine wpAny_Call_Name_kw (ld_glob I hg hm ?_ hdb)
  have ha : PA X [.Lambda params body scope lpos] (tCons (tLam X T params body scope) tNil) := pa_cons (pe_lam hcode C Bl B.cap hdef) pa_nil rfl
  refine PySem.W.callWith_K (h₀ := X.base) I.ok.mod.kin hk (thn (ha pos pins s σ H (fun vs H1 => ∃ f, vs = [.ref f] ∧ LamAt X T params body scope H f H1) I ⟨h.1, fun f H1 L => ⟨f, rfl, L⟩⟩) fun us s1 ⟨vs, H1, I1, r, f, ev, L⟩ => ⟨I1.kIn, ?_⟩) rfl rfl
  subst ev
  have q := h.2 f H1 L
  obtain ⟨cl, pm, c', ctv, oc, vs, t, a1, a2, a3, a4, c1, c2⟩ := L.ob
  have run : Runs X.prog X.w X.K X.mg (baseOf X.base cl s1.heap) (k + 1) f H1 (R Q) (Ec Q) :=
    runs_lam a1 a2 a3 a4 S (I1.cap B c1 c2) (hbind _ _ _ _) (fun A outer s hr => hbody _ _ _ _ _ _ _ _ _ hr) q
  have hl : us.length = [px].length := r.length.symm
  refine wpAny_call (codeAny_mono ((F (baseOf X.base cl s1.heap)).run X.A X.stack s1 H1 ⟨us, []⟩ us [.ref f] Q E0 hr (I1.env1 hfn c1) (by simpa using hb s1 us I1.kIn (by simpa using hl)) r ⟨f, _, _, rfl, a1, rfl, run⟩) fun rs s' hq => ?_)
  cases rs with
  | error e => exact False.elim hq
  | ok fl =>
    cases fl with
    | ret u => exact I1.after hq
    | next => exact False.elim hq
    | brk => exact False.elim hq
    | cont => exact False.elim hq
end
end L2
end
section
/-! sum of a list of ints; l.index(True) of a list of truths. -/
namespace L2
open PySem PySem.Spec PyProof.Rows
set_option maxHeartbeats 4000000
set_option maxRecDepth 100000
set_option Elab.async false
set_option linter.unusedVariables false
theorem eq_bools (a b : Bool) : MeetsSeq.EqGives (.bool a) (.bool b) (a == b) := fun prog w A E s Q h => SeqAt.EqAt.bool_bool (A := A) (s := s) a b prog w E Q h
section
variable {X : Cx}
theorem call_sumI (hc : X.calm = true) : CallR X (.builtin "sum") (fun xs H Q => ∃ (p : Addr) (ns : List Int), xs = [.ref p] ∧ SqL X.K H p (ns.map V.int) ∧ Q (.int ns.sum) H) := by
  intro pins s σ H xs us Q I r h
  obtain ⟨p, ns, rfl, hq, q⟩ := h
  obtain ⟨u, rfl, rx⟩ := vals1 r
  cases (show u = Value.ref p from rx)
  obtain ⟨its, r', pl, hz⟩ := I.list hq
  have all : ∀ (l : List Int) (vs : List Value), Vals (l.map V.int) vs → ∃ ps : List (Int × Tok), vs = ps.map (fun p => Value.int p.1 p.2) ∧ ps.map (·.1) = l := by
    intro l
    induction l with
    | nil => intro vs v; cases v; exact ⟨[], rfl, rfl⟩
    | cons n l ih =>
      intro vs v
      cases v with
      | cons a b =>
        obtain ⟨t, rfl⟩ := a
        obtain ⟨ps, rfl, e⟩ := ih _ b
        exact ⟨(n, t) :: ps, rfl, by rw [List.map_cons, e]⟩
  obtain ⟨ps, e1, e2⟩ := all ns its r'
  have hl : s.heap.IsList p (intItems ps.toArray) := by
    have z := pl.isList
    rw [e1] at z
    have e3 : (ps.map fun p => Value.int p.1 p.2).toArray = intItems ps.toArray := by unfold intItems; simp
    rw [e3] at z
    exact z
  refine sum_intListG (I.ok.hd hc) hl fun h' tk t' hk => ?_
  rw [preSum_eq, List.take_of_length_le (by simp)]
  have e4 : ps.toArray.toList.map (·.1) = ns := e2
  rw [e4]
  exact ⟨.int ns.sum, H, I.kept hk, ⟨_, rfl⟩, q⟩
def rIndexT : V → List V → Hp → VK → Prop := fun x vs H Q => ∃ (l : Addr) (bs : List Bool) (j : Nat), x = .ref l ∧ vs = [.bl true] ∧ H l = some (.lst (bs.map V.bl)) ∧ bs[j]? = some true ∧ (∀ i, i < j → bs[i]? = some false) ∧ Q (.int (j : Nat)) H
theorem mt_indexT : MtM X "list.index" rIndexT := by
  intro pins s σ H x vs v us Q I rx rv h
  obtain ⟨l, bs, j, rfl, rfl, hH, hj, hn, q⟩ := h
  cases rx
  obtain ⟨u, rfl, ru⟩ := rv.one
  cases ru
  obtain ⟨z, its, n, r, hl, e⟩ := I.lstM hH
  have at_ : ∀ (i : Nat) (b : Bool), bs[i]? = some b → its[i]? = some (Value.bool b) := fun i b hb => by
    obtain ⟨w', hw, rw'⟩ := r.get (show (bs.map V.bl)[i]? = some (V.bl b) by rw [List.getElem?_map, hb]; rfl)
    rw [hw, show w' = Value.bool b from rw']
  have back : ∀ y ∈ its.toArray, ∃ b, y = Value.bool b := fun y hy => by
    obtain ⟨i, hi, rfl⟩ := List.getElem_of_mem (List.mem_toArray.mp hy)
    have hb : i < bs.length := by rw [← hl, List.length_map] at hi; exact hi
    have := at_ i bs[i] (List.getElem?_eq_getElem hb)
    rw [List.getElem?_eq_getElem hi] at this
    exact ⟨_, Option.some.inj this⟩
  have hji : j < its.length := (List.getElem?_eq_some_iff.mp (at_ j true hj)).1
  have hzz : its.length ≤ sizeLine := hl ▸ z
  rw [sizeLine_eq] at hzz
  refine call_meets F.slot_list_index ⟨_, e, rfl⟩ F.entry_list_index (F.args_list_index_2 _ _)
    (MeetsSeq.list_index l its.toArray n (.bool true) (fun y => y == .bool true) (fun y hy => ?_) j (by simpa using hji) (by omega) ?_ fun m hm hlt => ?_) ⟨e, ?_⟩
  · obtain ⟨b, rfl⟩ := back y hy
    have := eq_bools b true
    cases b <;> exact this
  · have := at_ j true hj
    rw [List.getElem?_eq_getElem hji] at this
    have := Option.some.inj this
    simp [this]
  · have hm' : m < its.length := by simpa using hm
    have := at_ m false (hn m hlt)
    rw [List.getElem?_eq_getElem hm'] at this
    have := Option.some.inj this
    simp [this]
  · exact ⟨.int (j : Nat), H, I.tok _, ⟨_, rfl⟩, q⟩
end
end L2
end
section
/-! Defs that raise, by name; the law's call where the law makes lambdas. -/
namespace L2
open PySem PySem.Spec PyProof.Rows
set_option maxHeartbeats 4000000
set_option maxRecDepth 100000
set_option Elab.async false
set_option linter.unusedVariables false
def HasE (P : Program) (w : World) (K : PySem.W.Frag) (mg : Str → Option Value) (base : Heap) (k : Nat) (x : Str) (ps : List Str) (sp : Sp) : Prop :=
  ∃ (f : Addr) (fd : FuncData), FnOk P w K mg base (CXF P w) k f fd ps sp ∧ mg x = some (.ref f) ∧ PySem.W.keepIn K (.ref f) = true ∧ Binds K fd ps []
section
variable {X : Cx} {k k' : Nat} {x : Str} {ps : List Str} {sp : Sp} {e : Expr} {es : List Expr} {t : TA} {p pos : Pos} {E : XK}
theorem pe_defE (h : HasE X.prog X.w X.K X.mg X.base k x ps sp) (L : Lvs X E) (hr : Room k' X.A) (ha : PA X (e :: es) t) (hg : Gl X x := by rfl) (hk : k ≤ k' := by decide) (hdb : (x == ("__debug__" : Str)) = false := by decide)
    (he : starEach (e :: es) X.env = (false, eval e X.env) :: starEach es X.env := by rfl) (hpl : (backTo pos (starEach es X.env)).any (·.1) = false := by rfl) : PE X (.Call (.Name x p) (e :: es) [] pos) (tCall sp [] E t) := by
  obtain ⟨f, fd, F, m, kp, b⟩ := h
  exact pe_call F (hr.mono hk) hg m kp b .nil (L.pass fun _ _ _ z => z) ha hdb he hpl
end
section
variable {P : Program} {w : World} {K : PySem.W.Frag} {mg : Str → Option Value} {base : Heap}
theorem Fun.okE {x qual : Str} {st : Stmt} {f : Addr} {fd : FuncData} {N ps : List Str} {k : Nat} {sp : Sp} (F : Fun K x qual st f fd) (S : FnScope N ps (defScope st)) (len : ∀ vs H Q E, sp vs H Q E → vs.length = ps.length)
    (hbody : ∀ (cdv : Value) (A : Around) (outer : List Env) (s : Shared) (H : Hp) (vs : List V) (Q : VK) (E : XK), Room k (A.deeper (envOfC qual (defScope st) s.heap.objs.size f cdv)) → sp vs H Q E →
      ∃ t, PSs (cxOf (CXF P w) P w K mg base N qual (defScope st) f cdv A outer s H E) (defBody st) t ∧ t { nx := fun _ H' => Q .non H', rt := Q } (start N vs) H) : FnOk P w K mg base (CXF P w) (k + 1) f fd ps sp := by
  obtain ⟨oc, od, kV, doc, pm, an, cdv, ct, osl, rfl, lk, hcd⟩ := F.ex
  exact fn_of lk hcd S len fun A outer s H vs Q E hr hsp => hbody cdv A outer s H vs Q E hr hsp
/-- a def whose code object is known -/
theorem Fun.okC {x qual : Str} {st : Stmt} {f : Addr} {fd : FuncData} {N ps : List Str} {k : Nat} {sp : Sp} (F : Fun K x qual st f fd) (S : FnScope N ps (defScope st)) (len : ∀ vs H Q E, sp vs H Q E → vs.length = ps.length)
    (hbody : ∀ (A : Around) (outer : List Env) (s : Shared) (H : Hp) (vs : List V) (Q : VK) (E : XK), Room k (A.deeper (envOfC qual (defScope st) s.heap.objs.size f fd.code)) → sp vs H Q E →
      ∃ t, PSs (cxOf CX0 P w K mg base N qual (defScope st) f fd.code A outer s H E).nox (defBody st) t ∧ t { nx := fun _ H' => Q .non H', rt := Q } (start N vs) H) : FnOk P w K mg base CX0 (k + 1) f fd ps sp := by
  obtain ⟨oc, od, kV, doc, pm, an, cdv, ct, osl, rfl, lk, hcd⟩ := F.ex
  refine fn_of lk hcd S len fun A outer s H vs Q E hr hsp => ?_
  obtain ⟨t, h, q⟩ := hbody A outer s H vs Q E hr hsp
  exact ⟨t, h.nox, q⟩
end
/-- the law is called; T the table of its code -/
theorem law_callT {P : Program} {w : World} {K : PySem.W.Frag} {mg mb : Str → Option Value} {k : Nat} {fa a c T : Addr} {fd : FuncData} {x : Str} {sp : Sp} {s₁ : Shared} {vs : List Value} {ns : List Int} {R : Result → Shared → Prop}
    (KX : K.In s₁.heap) (hns : s₁.heap.Ns mainGlobals mg) (hb : s₁.heap.Ns builtinsNs mb) (hbb : ∀ x : Str, x ≠ "__name__" → mb x = bootBuiltins x) (hlim : s₁.heap.NoLimit) (hg : s₁.gens = #[]) (B : BltAt mg s₁.heap)
    (hKT : K.lookup T = none) (hT : s₁.heap.get? T = some (PySem.W.tabObj #[])) (C : PySem.W.codeHdIn K c T = true)
    (ha : s₁.heap.get? a = some { cls := .type "list", data := .seq vs.toArray }) (hi : IntsAre vs ns) (hl : ns.length ≤ sizeLine) (hr : Room k callerA)
    (F : ∀ base : Heap, K.In base → base.Ns mainGlobals mg → BltAt mg base → FnOk P w K mg base CX0 k fa fd [x] sp) (hbind : BindsTo s₁ fd ⟨[.ref a], []⟩ [(x, .ref a)])
    (hsp : ∀ H : Hp, H T = some (.tbl #[]) → SqL K H a (ns.map V.int) → sp [.ref a] H (fun v _ => v = .bl true) E0)
    (hR : ∀ s', OldK s₁.heap s'.heap → s'.os = s₁.os → AllBare s'.gens → R (.ok (.ret (.bool true))) s') : codeAny (model P w) callerA (.call (.ref fa) ⟨[.ref a], []⟩) R s₁ := by
  have aT : a ≠ T := fun z => by rw [z, hT] at ha; cases ha
  obtain ⟨S, H, hS, tT, sq, hok, only⟩ : ∃ (S : List Addr) (H : Hp), (∀ b, H b = none ↔ b ∉ S) ∧ H T = some (.tbl #[]) ∧ SqL K H a (ns.map V.int) ∧ HOk P w H s₁.heap ∧ ∀ b ∈ S, K.lookup b = none ∧ (b = T ∨ b = a ∧ ∃ o u, H a = some (.frz o u)) := by
    have okT : ∀ H, ObjOk P w H s₁.heap T (.tbl #[]) := fun _ => hT
    cases hk : K.lookup a with
    | some o =>
      have e := KX a o hk
      rw [ha] at e
      cases e
      refine ⟨[T], upd (fun _ => none) T (.tbl #[]), fun b => ?_, upd_same, .inr ⟨_, vs.toArray, _, hk, rfl, rfl, rfl, by rw [List.size_toArray, hi.length]; exact hl, by simpa using vals_ints hi⟩, fun b u z => ?_, fun b hb => ?_⟩
      · by_cases z : b = T
        · subst z; simp [upd_same]
        · simp [upd_ne z, z]
      · by_cases q : b = T
        · subst q; rw [upd_same] at z; cases z; exact okT _
        · rw [upd_ne q] at z; cases z
      · obtain rfl := List.mem_singleton.mp hb
        exact ⟨hKT, .inl rfl⟩
    | none =>
      obtain ⟨H, hH⟩ : ∃ H, H = upd (upd (fun _ => none) a (.frz { cls := .type "list", data := .seq vs.toArray } (.lst (ns.map V.int)))) T (.tbl #[]) := ⟨_, rfl⟩
      have hHa : H a = some (.frz { cls := .type "list", data := .seq vs.toArray } (.lst (ns.map V.int))) := by rw [hH, upd_ne aT, upd_same]
      refine ⟨[T, a], H, fun b => ?_, by rw [hH, upd_same], .inl (.inr ⟨_, hHa⟩), fun b u z => ?_, fun b hb => ?_⟩
      · by_cases z : b = T
        · subst z; simp [hH, upd_same]
        · by_cases z2 : b = a
          · subst z2; simp [hHa]
          · simp [hH, upd_ne z, upd_ne z2, z, z2]
      · by_cases q : b = T
        · subst q; rw [hH, upd_same] at z; cases z; exact okT _
        · by_cases q2 : b = a
          · subst q2
            rw [hHa] at z
            cases z
            exact ⟨ha, by rw [List.length_map]; exact hl, vs, _, vals_ints hi, ha⟩
          · rw [hH, upd_ne q, upd_ne q2] at z; cases z
      · rcases List.mem_cons.mp hb with rfl | hb
        · exact ⟨hKT, .inl rfl⟩
        · obtain rfl := List.mem_singleton.mp hb
          exact ⟨hk, .inr ⟨rfl, _, _, hHa⟩⟩
  have inB : ∀ {b : Addr} {o : Obj}, s₁.heap.get? b = some o → (∀ ps, o ≠ PySem.W.tabObj ps) → (∀ its n, o.data ≠ .seq its n) → (lessOf S s₁.heap).get? b = some o := fun {b o} e h1 h2 => by
    rw [less_out]
    · exact e
    · intro z
      rcases (only b z).2 with q | ⟨q, _⟩
      · rw [q, hT] at e; exact h1 _ (Option.some.inj e).symm
      · rw [q, ha] at e; cases e; exact h2 _ _ rfl
  have nsB : ∀ {b : Addr} {m : Str → Option Value}, s₁.heap.Ns b m → (lessOf S s₁.heap).Ns b m := fun {b m} ⟨o, es, ep, e, d, r⟩ =>
    ⟨o, es, ep, inB e (fun ps z => by rw [z] at d; cases d) (fun _ _ z => by rw [d] at z; cases z), d, r⟩
  have kB : K.In (lessOf S s₁.heap) := fun b o e => by
    rw [less_out]
    · exact KX b o e
    · intro z
      rw [(only b z).1] at e; cases e
  have bB : BltAt mg (lessOf S s₁.heap) := let ⟨bm, o, b1, b2, b3, b4, b5, b6, b7⟩ := B
    ⟨bm, o, b1, b2, b3, inB b4 (fun ps z => by rw [z] at b7; cases b7) (fun _ _ z => by rw [b7] at z; cases z), b5, b6, b7⟩
  have e0 : Env0 P w K mg (lessOf S s₁.heap) callerA [] s₁ H :=
    ⟨rfl, ⟨kB, nsB hns, ⟨mb, nsB hb, hbb⟩, let ⟨mc, h1, h2⟩ := hlim; ⟨mc, nsB h1, h2⟩⟩, fun b o e => ⟨(less_some e).2, (hS b).mpr (less_some e).1⟩, Nat.le_of_eq (less_size _ _), trivial, fun b z => (nomatch z), hok, .of_eq hg⟩
  refine codeAny_mono ((F _ kB (nsB hns) bB).run callerA [] s₁ H ⟨[.ref a], []⟩ [.ref a] [.ref a] _ _ hr e0 hbind (.cons rfl .nil) (hsp H tT sq)) fun r s' h => ?_
  cases r with
  | error e => exact False.elim h
  | ok fl =>
    cases fl with
    | next => exact False.elim h
    | brk => exact False.elim h
    | cont => exact False.elim h
    | ret u =>
      obtain ⟨v, H', os, bare, un, hok', r', q⟩ := h
      obtain rfl : v = .bl true := q
      obtain rfl : u = Value.bool true := r'
      refine hR s' ⟨fun b o e => ?_, fun b o e => un.there b o e (by simp)⟩ os bare
      by_cases z : b ∈ S
      · rcases (only b z).2 with y | ⟨y, o2, u2, y2⟩
        · subst y
          rw [hT] at e
          cases e
          obtain ⟨more, m1⟩ := un.tbls _ _ tT
          exact .inr (.inl ⟨((PySem.W.codeHd_of_K KX C).tab hT).isCodeTable, rfl, #[], more, rfl, hok' _ _ m1⟩)
        · subst y
          have e1 := (hok _ _ y2).1
          rw [e] at e1
          cases e1
          exact .inl (hok' _ _ (un.frzs _ _ _ y2)).1
      · exact .inl (un.keep b o e ((hS b).mpr z) (fun y => nomatch y) (by simp))
theorem walk_ofT {l : PySem.W.OpenLaw} {n k : Nat} {q : Program} {loose : List Str} {XP : (Str → Option Value) → Heap → Prop} {YP : World → Heap → Prop} {d : DefRec} {K : Params → PySem.W.Frag} {sp : World → Sp} {x : Str} {T : Addr}
    (hn : l.most = some n) (hn2 : n ≤ sizeLine) (hdf : d.params.defaults = []) (hr : Room k callerA) (hY : ∀ (w : World) (h : Heap), YP w h → (K w.params).In h ∧ h.get? T = some (PySem.W.tabObj #[]))
    (F : ∀ (w : World) (mg : Str → Option Value) (fa : Addr) (h : Heap), (K w.params).In h → h.Ns mainGlobals mg → mg d.name = some (.ref fa) →
      ∃ (fd : FuncData) (c : Addr), (∀ (s : Shared) (u : Value), BindsTo s fd ⟨[u], []⟩ [(x, u)]) ∧ (K w.params).lookup T = none ∧ PySem.W.codeHdIn (K w.params) c T = true ∧
        ∀ base : Heap, (K w.params).In base → base.Ns mainGlobals mg → BltAt mg base → FnOk l.prog w (K w.params) mg base CX0 k fa fd [x] (sp w))
    (hsp : ∀ (w : World) (H : Hp) (a : Addr) (ns : List Int), ns.length ≤ n → H T = some (.tbl #[]) → SqL (K w.params) H a (ns.map V.int) → sp w [.ref a] H (fun v _ => v = .bl true) E0) :
    PySem.W.WalkO q loose XP YP l.row.toRowW d [] (fun f vs => PySem.call f vs) := by
  refine Att.attach_call hn hdf fun w s₀ s₁ mg mb fa o pm cd doc a vs ns G Y ho hd hcd hmg hobj hints hlen hg => ?_
  obtain ⟨KX, hT⟩ := hY w _ Y
  obtain ⟨fd, c, hb, k1, k2, hF⟩ := F w mg fa _ KX G.T.g hmg
  obtain ⟨bm, ob, b1, b2, b3, b4, b5, b6⟩ := G.T.bmain
  have b7 : bm ≠ mainGlobals := fun z => by
    obtain ⟨u, es, ep, e, hd, _⟩ := G.T.g
    rw [z, e] at b3
    cases b3
    rw [hd] at b6
    cases b6
  exact law_callT KX G.T.g G.T.b G.T.builtins G.T.nolimit hg ⟨bm, ob, b1, b2, b7, b3, b4, b5, b6⟩ k1 hT k2 hobj hints (Nat.le_trans hlen hn2) hr hF (hb _ _) (fun H h1 h2 => hsp w H a ns hlen h1 h2) fun s' h1 h2 h3 => ⟨rfl, h1, h2, h3⟩
end L2
end
section
/-! f(lambda: ..) with the scopes by name. -/
namespace L2
open PySem PySem.Spec PyProof.Rows
set_option maxHeartbeats 4000000
set_option maxRecDepth 100000
set_option Elab.async false
set_option linter.unusedVariables false
/-- one that calls what it is given, by name, over every base -/
def HasR (P : Program) (w : World) (K : PySem.W.Frag) (mg : Str → Option Value) (kr k : Nat) (x px : Str) (R : VK → VK) (Ec : VK → XK) : Prop :=
  ∃ (f : Addr) (fd : FuncData), (∀ base, FnOk P w K mg base CX0 kr f fd [px] (spRef P w K mg base k R Ec)) ∧ mg x = some (.ref f) ∧ PySem.W.keepIn K (.ref f) = true ∧ Binds K fd [px] []
section
variable {X : Cx} {T c : Addr} {params : Arguments} {body : Expr} {scope sc : Scope} {x : Str} {p lpos pos : Pos} {k kr k' : Nat} {px : Str} {R : VK → VK} {Ec : VK → XK} {te : XK → TE} {N N0 : List Str} {js : List Nat}
theorem pe_lambda (h : HasR X.prog X.w X.K X.mg kr (k + 1) x px R Ec) (hr : Room k' X.A) (hcode : X.env.code = .ref c) (C : PySem.W.CodeHd X.base c T) (Bl : BltAt X.mg X.base) (hsc : X.env.scope = sc) (hN : X.N = N0) (S : LamS scope) (B : Blk sc N0 N 0 js scope)
    (hbody : ∀ (base : Heap) (E : XK) (cl : List (Str × Addr)) (f : Addr) (cd : Value) (A : Around) (outer : List Env) (s : Shared) (H : Hp), Room k (A.deeper (PySem.W.envX (lamQ X) scope s.heap.objs.size f cd cl)) →
      PE (lamCx X.prog X.w X.K X.mg base N (lamQ X) scope cl f cd A outer s H E) body (te E))
    (hfn : ∀ x, X.fn x = true := by intro _; rfl) (hk : kr ≤ k' := by decide) (hg : Gl X x := by rfl)
    (hbind : ∀ cl pm cd ctv, bindArgs (PySem.W.kla_fn "<lambda>" (lamQ X) params body scope cl pm cd ctv) ⟨[], []⟩ = pure [] := by intros; rfl)
    (hdef : defaultsOf params X.env = ([], []) := by rfl) (hdb : (x == ("__debug__" : Str)) = false := by decide) : PE X (.Call (.Name x p) [.Lambda params body scope lpos] [] pos) (tRef X T params body scope js R Ec te) := by
  subst hsc hN
  obtain ⟨f, fd, F, m, kp, b⟩ := h
  exact pe_refuse F (hr.mono hk) hg m kp b hfn hcode C Bl S B rfl hbody hbind hdef hdb
end
end L2
end
section
/-! sum of a tuple of ints. -/
namespace L2
open PySem PySem.Spec PyProof.Rows
set_option maxHeartbeats 4000000
set_option maxRecDepth 100000
set_option Elab.async false
set_option linter.unusedVariables false
section
variable {X : Cx}
end
end L2
end
section
/-! The tree of questions of a sort, asked of keys that are all unlike, sorts. -/
namespace L2
open PySem PySem.W PyProof.Rows
set_option maxHeartbeats 4000000
set_option Elab.async false
set_option linter.unusedVariables false
/-- the places, in some order -/
structure Pm (n : Nat) (p : Array Nat) : Prop where
  perm : p.toList.Perm (List.range n)
section
variable {n : Nat} {p : Array Nat}
theorem Pm.size (h : Pm n p) : p.size = n := by
  have := h.perm.length_eq
  rw [List.length_range, Array.length_toList] at this
  exact this
theorem Pm.lt (h : Pm n p) (n0 : 0 < n) (j : Nat) : p.getD j 0 < n := by
  by_cases c : j < p.size
  · have e : p.getD j 0 = p[j] := by simp [Array.getD, c]
    rw [e]
    exact List.mem_range.mp (h.perm.mem_iff.mp (by simp))
  · have e : p.getD j 0 = 0 := by simp [Array.getD, c]
    rw [e]
    exact n0
theorem Pm.inj (h : Pm n p) {i j : Nat} (hi : i < n) (hj : j < n) (e : p.getD i 0 = p.getD j 0) : i = j := by
  have hi' : i < p.size := by rw [h.size]; exact hi
  have hj' : j < p.size := by rw [h.size]; exact hj
  have e1 : p.getD i 0 = p[i] := by simp [Array.getD, hi']
  have e2 : p.getD j 0 = p[j] := by simp [Array.getD, hj']
  have nd : p.toList.Nodup := h.perm.nodup_iff.mpr List.nodup_range
  rw [e1, e2] at e
  have pw := List.pairwise_iff_getElem.mp nd
  rcases Nat.lt_trichotomy i j with c | c | c
  · exact absurd (by rw [Array.getElem_toList, Array.getElem_toList]; exact e) (pw i j _ _ c)
  · exact c
  · exact absurd (by rw [Array.getElem_toList, Array.getElem_toList]; exact e.symm) (pw j i _ _ c)
theorem Pm.of (h : Pm n p) {q : Array Nat} (hq : q.Perm p) : Pm n q := ⟨(Array.perm_iff_toList_perm.mp hq).trans h.perm⟩
theorem getD_of? {p : Array Nat} {q : Array Nat} {i j : Nat} (h : p[i]? = q[j]?) : p.getD i 0 = q.getD j 0 := by
  rw [Array.getD_eq_getD_getElem?, Array.getD_eq_getD_getElem?, h]
end
/-- the first k rise -/
def Up (key : Nat → Int) (p : Array Nat) (k : Nat) : Prop := ∀ j, 1 ≤ j → j < k → key (p.getD (j - 1) 0) < key (p.getD j 0)
theorem Up.lt {key : Nat → Int} {p : Array Nat} {k : Nat} (h : Up key p k) : ∀ (d i : Nat), i + d + 1 < k → key (p.getD i 0) < key (p.getD (i + d + 1) 0)
  | 0, i, hi => h (i + 1) (by omega) hi
  | d + 1, i, hi => Int.lt_trans (Up.lt h d i (by omega)) (h (i + (d + 1) + 1) (by omega) hi)
theorem Up.lt' {key : Nat → Int} {p : Array Nat} {k i j : Nat} (h : Up key p k) (hij : i < j) (hj : j < k) : key (p.getD i 0) < key (p.getD j 0) := by
  have := h.lt (j - i - 1) i (by omega)
  rwa [show i + (j - i - 1) + 1 = j by omega] at this
section
variable {cmp : Nat → Nat → (Bool → Shared → Prop) → Shared → Prop} {key : Nat → Int} {J : Shared → Prop} {n : Nat} {s : Shared}
/-- each question is answered by the keys -/
def Told (cmp : Nat → Nat → (Bool → Shared → Prop) → Shared → Prop) (key : Nat → Int) (J : Shared → Prop) (n : Nat) : Prop :=
  ∀ i j (C : Bool → Shared → Prop) s, i < n → j < n → J s → (∀ s', J s' → C (decide (key i < key j)) s') → cmp i j C s
theorem go_asc (A : Told cmp key J n) {p : Array Nat} (hp : Pm n p) (n0 : 0 < n) {Q : Nat → Shared → Prop} : ∀ (f m : Nat) (s : Shared), J s → 1 ≤ m → m + f = n →
    (∀ m' s', J s' → m ≤ m' → m' ≤ n → (∀ j, m ≤ j → j < m' → ¬ key (p.getD j 0) < key (p.getD (j - 1) 0)) → (m' < n → key (p.getD m' 0) < key (p.getD (m' - 1) 0)) → Q m' s') → (kas_asc p f m).kasWp cmp Q s
  | 0, m, s, hJ, h1, hf, q => q m s hJ (Nat.le_refl _) (by omega) (fun j a b => by omega) (fun z => by omega)
  | f + 1, m, s, hJ, h1, hf, q => by
    refine A _ _ _ s (hp.lt n0 _) (hp.lt n0 _) hJ fun s' hJ' => ?_
    by_cases c : key (p.getD m 0) < key (p.getD (m - 1) 0)
    · rw [decide_eq_true c]
      dsimp only
      rw [if_pos rfl]
      exact q m s' hJ' (Nat.le_refl _) (by omega) (fun j a b => by omega) fun _ => c
    · rw [decide_eq_false c]
      dsimp only
      rw [if_neg Bool.false_ne_true]
      refine go_asc A hp n0 f (m + 1) s' hJ' (by omega) (by omega) fun m' s2 hJ2 a b d e => q m' s2 hJ2 (by omega) b (fun j x y => ?_) e
      by_cases z : j = m
      · rw [z]; exact c
      · exact d j (by omega) y
theorem go_desc (A : Told cmp key J n) {p : Array Nat} (hp : Pm n p) (n0 : 0 < n) (inj : ∀ i j, i < n → j < n → key i = key j → i = j) {Q : Array Nat × Nat × Nat → Shared → Prop} : ∀ (f m : Nat) (s : Shared), J s → 2 ≤ m → m + f = n →
    (∀ j, 1 ≤ j → j < m → key (p.getD j 0) < key (p.getD (j - 1) 0)) →
    (∀ m' s', J s' → m ≤ m' → m' ≤ n → (∀ j, 1 ≤ j → j < m' → key (p.getD j 0) < key (p.getD (j - 1) 0)) → Q (p, m', 0) s') → (kas_desc f p m 0).kasWp cmp Q s
  | 0, m, s, hJ, h1, hf, dn, q => q m s hJ (Nat.le_refl _) (by omega) dn
  | f + 1, m, s, hJ, h1, hf, dn, q => by
    refine A _ _ _ s (hp.lt n0 _) (hp.lt n0 _) hJ fun s' hJ' => ?_
    by_cases c : key (p.getD m 0) < key (p.getD (m - 1) 0)
    · rw [decide_eq_true c]
      dsimp only
      rw [if_pos rfl, if_neg (by decide)]
      refine go_desc A hp n0 inj f (m + 1) s' hJ' (by omega) (by omega) (fun j x y => ?_) fun m' s2 hJ2 a b d => q m' s2 hJ2 (by omega) b d
      by_cases z : j = m
      · rw [z]; exact c
      · exact dn j x (by omega)
    · rw [decide_eq_false c]
      dsimp only
      rw [if_neg Bool.false_ne_true]
      refine A _ _ _ s' (hp.lt n0 _) (hp.lt n0 _) hJ' fun s2 hJ2 => ?_
      have ne : key (p.getD m 0) ≠ key (p.getD (m - 1) 0) := fun e => by
        have := hp.inj (by omega) (by omega) (inj _ _ (hp.lt n0 _) (hp.lt n0 _) e)
        omega
      rw [decide_eq_true (by omega : key (p.getD (m - 1) 0) < key (p.getD m 0))]
      dsimp only
      rw [if_pos rfl]
      exact q m s2 hJ2 (Nat.le_refl _) (by omega) dn
theorem up_of_not {p : Array Nat} (hp : Pm n p) (n0 : 0 < n) (inj : ∀ i j, i < n → j < n → key i = key j → i = j) {k : Nat} (hk : k ≤ n) (h : ∀ j, 1 ≤ j → j < k → ¬ key (p.getD j 0) < key (p.getD (j - 1) 0)) : Up key p k := fun j h1 h2 => by
  have ne : key (p.getD j 0) ≠ key (p.getD (j - 1) 0) := fun e => by
    have := hp.inj (by omega) (by omega) (inj _ _ (hp.lt n0 _) (hp.lt n0 _) e)
    omega
  have := h j h1 h2
  omega
theorem go_tail (A : Told cmp key J n) {p : Array Nat} (hp : Pm n p) (n0 : 0 < n) (inj : ∀ i j, i < n → j < n → key i = key j → i = j) {m : Nat} (m1 : 1 ≤ m) (mn : m ≤ n) (hJ : J s) (dn : ∀ j, 1 ≤ j → j < m → key (p.getD j 0) < key (p.getD (j - 1) 0)) {Q : Nat × Array Nat → Shared → Prop}
    (q : ∀ k p' s', J s' → Pm n p' → 1 ≤ k → k ≤ n → Up key p' k → Q (k, p') s') : (kas_tail3 m n p).kasWp cmp Q s := by
  have hp' : Pm n (kas_rev p 0 m) := hp.of (mirror_perm _ _ _ _)
  have at_ : ∀ k, k < m → (kas_rev p 0 m).getD k 0 = p.getD (m - 1 - k) 0 := fun k hk => getD_of? (by
    unfold kas_rev
    rw [getElem?_mirror_all (by rw [hp.size]; exact mn), if_pos ⟨Nat.zero_le _, hk⟩]
    congr 1
    omega)
  unfold kas_tail3
  rw [KasT.kasWp_bind]
  refine go_asc A hp' n0 (n - m) m s hJ m1 (by omega) fun k s' hJ' a b d e => q k _ s' hJ' hp' (by omega) b ?_
  intro j h1 h2
  by_cases c : j < m
  · rw [at_ j c, at_ (j - 1) (by omega)]
    have := dn (m - 1 - (j - 1)) (by omega) (by omega)
    rwa [show m - 1 - (j - 1) - 1 = m - 1 - j by omega] at this
  · have ne : key ((kas_rev p 0 m).getD j 0) ≠ key ((kas_rev p 0 m).getD (j - 1) 0) := fun e => by
      have := hp'.inj (by omega) (by omega) (inj _ _ (hp'.lt n0 _) (hp'.lt n0 _) e)
      omega
    have := d j (by omega) h2
    omega
theorem go_count (A : Told cmp key J n) {p : Array Nat} (hp : Pm n p) (n2 : 2 ≤ n) (inj : ∀ i j, i < n → j < n → key i = key j → i = j) (hJ : J s) {Q : Nat × Array Nat → Shared → Prop}
    (q : ∀ k p' s', J s' → Pm n p' → 1 ≤ k → k ≤ n → Up key p' k → Q (k, p') s') : (kas_count n p).kasWp cmp Q s := by
  have n0 : 0 < n := by omega
  unfold kas_count
  rw [KasT.kasWp_bind]
  refine go_asc A hp n0 (n - 1) 1 s hJ (Nat.le_refl _) (by omega) fun m s' hJ' a b d e => ?_
  have up : Up key p m := up_of_not hp n0 inj b d
  by_cases c : m = n
  · rw [if_pos (by rw [c]; exact beq_self_eq_true n)]
    exact q m p s' hJ' hp a b up
  rw [if_neg (by simpa using c)]
  by_cases c1 : m > 1
  · rw [if_pos c1]
    refine A _ _ _ s' (hp.lt n0 _) (hp.lt n0 _) hJ' fun s2 hJ2 => ?_
    rw [decide_eq_true (up.lt' (show 0 < m - 1 by omega) (by omega))]
    dsimp only
    rw [if_pos rfl]
    exact q m p s2 hJ2 hp a b up
  · rw [if_neg c1]
    have em : m = 1 := by omega
    subst em
    unfold kas_descPart
    rw [KasT.kasWp_bind]
    refine go_desc A hp n0 inj (n - (1 + 1)) (1 + 1) s' hJ' (by omega) (by omega) (fun j x y => ?_) fun m' s2 hJ2 x y z => ?_
    · have ej : j = 1 := by omega
      subst ej
      exact e (by omega)
    · dsimp only
      rw [if_neg (by decide)]
      exact go_tail A hp n0 inj (by omega) y hJ2 z q
theorem go_place (A : Told cmp key J n) {p : Array Nat} (hp : Pm n p) (n0 : 0 < n) {k : Nat} (kn : k < n) (up : Up key p k) {Q : Nat → Shared → Prop} : ∀ (f l r : Nat) (s : Shared), J s → r - l ≤ f → l ≤ r → r ≤ k →
    (∀ j, j < l → ¬ key (p.getD k 0) < key (p.getD j 0)) → (∀ j, r ≤ j → j < k → key (p.getD k 0) < key (p.getD j 0)) →
    (∀ l' s', J s' → l' ≤ k → (∀ j, j < l' → ¬ key (p.getD k 0) < key (p.getD j 0)) → (∀ j, l' ≤ j → j < k → key (p.getD k 0) < key (p.getD j 0)) → Q l' s') → (kas_place p k f l r).kasWp cmp Q s
  | 0, l, r, s, hJ, h1, h2, h3, lo, hi, q => q l s hJ (by omega) lo (by rw [show l = r by omega]; exact hi)
  | f + 1, l, r, s, hJ, h1, h2, h3, lo, hi, q => by
    show KasT.kasWp cmp (if l ≥ r then .ret l else _) Q s
    by_cases c : l ≥ r
    · rw [if_pos c]
      exact q l s hJ (by omega) lo (by rw [show l = r by omega]; exact hi)
    rw [if_neg c]
    refine A _ _ _ s (hp.lt n0 _) (hp.lt n0 _) hJ fun s' hJ' => ?_
    by_cases d : key (p.getD k 0) < key (p.getD ((l + r) / 2) 0)
    · rw [decide_eq_true d]
      dsimp only
      rw [if_pos rfl]
      refine go_place A hp n0 kn up f l ((l + r) / 2) s' hJ' (by omega) (by omega) (by omega) lo (fun j x y => ?_) q
      by_cases z : j = (l + r) / 2
      · rw [z]; exact d
      · exact Int.lt_trans d (up.lt' (by omega) y)
    · rw [decide_eq_false d]
      dsimp only
      rw [if_neg Bool.false_ne_true]
      refine go_place A hp n0 kn up f ((l + r) / 2 + 1) r s' hJ' (by omega) (by omega) (by omega) (fun j x => ?_) hi q
      by_cases z : j = (l + r) / 2
      · rw [z]; exact d
      · have := up.lt' (i := j) (j := (l + r) / 2) (by omega) (by omega)
        omega
theorem go_bin (A : Told cmp key J n) (n0 : 0 < n) (inj : ∀ i j, i < n → j < n → key i = key j → i = j) {Q : Array Nat → Shared → Prop} : ∀ (f : Nat) (p : Array Nat) (k : Nat) (s : Shared), J s → Pm n p → k + f = n → Up key p k →
    (∀ p' s', J s' → Pm n p' → Up key p' n → Q p' s') → (kas_bin f p k).kasWp cmp Q s
  | 0, p, k, s, hJ, hp, hf, up, q => q p s hJ hp (by rw [← hf]; exact up)
  | f + 1, p, k, s, hJ, hp, hf, up, q => by
    have kn : k < n := by omega
    show KasT.kasWp cmp ((kas_place p k k 0 k).bind fun l => kas_bin f (bubble p k (k - l)) (k + 1)) Q s
    rw [KasT.kasWp_bind]
    refine go_place A hp n0 kn up k 0 k s hJ (by omega) (Nat.zero_le _) (Nat.le_refl _) (fun j z => by omega) (fun j x y => by omega) fun l s' hJ' lk lo hi => ?_
    have at_ : ∀ j, (bubble p k (k - l)).getD j 0 = if j = l then p.getD k 0 else if l < j ∧ j ≤ k then p.getD (j - 1) 0 else p.getD j 0 := fun j => by
      have g := getElem?_bubble (xs := p) (src := k) (by rw [hp.size]; exact kn) (k - l) (by omega) j
      rw [show k - (k - l) = l by omega] at g
      split
      · rename_i c; rw [if_pos c] at g; exact getD_of? g
      · rename_i c
        rw [if_neg c] at g
        split
        · rename_i d; rw [if_pos d] at g; exact getD_of? g
        · rename_i d; rw [if_neg d] at g; exact getD_of? g
    refine go_bin A n0 inj f _ (k + 1) s' hJ' (hp.of (bubble_perm _ _ _)) (by omega) (fun j h1 h2 => ?_) q
    rw [at_, at_]
    by_cases c1 : j = l
    · subst c1
      rw [if_neg (by omega), if_neg (by omega), if_pos rfl]
      have := lo (j - 1) (by omega)
      have ne : key (p.getD k 0) ≠ key (p.getD (j - 1) 0) := fun e => by
        have := hp.inj (by omega) (by omega) (inj _ _ (hp.lt n0 _) (hp.lt n0 _) e)
        omega
      omega
    · rw [if_neg c1]
      by_cases c2 : l < j
      · rw [if_pos (show l < j ∧ j ≤ k by omega)]
        by_cases c3 : j - 1 = l
        · rw [if_pos c3]
          exact hi (j - 1) (by omega) (by omega)
        · rw [if_neg c3, if_pos (show l < j - 1 ∧ j - 1 ≤ k by omega)]
          exact up (j - 1) (by omega) (by omega)
      · rw [if_neg (show ¬(l < j ∧ j ≤ k) by omega), if_neg (by omega), if_neg (by omega)]
        exact up j h1 (by omega)
theorem go_sort (A : Told cmp key J n) (n2 : 2 ≤ n) (inj : ∀ i j, i < n → j < n → key i = key j → i = j) (hJ : J s) {Q : Array Nat → Shared → Prop} (q : ∀ p s', J s' → Pm n p → Up key p n → Q p s') : (kas_sort n).kasWp cmp Q s := by
  unfold kas_sort
  rw [KasT.kasWp_bind]
  refine go_count A ⟨by simp⟩ n2 inj hJ fun k p s' hJ' hp k1 kn up => ?_
  dsimp only
  by_cases c : k < n
  · rw [if_pos c, show max k 1 = k by omega]
    exact go_bin A (by omega) inj (n - k) p k s' hJ' hp (by omega) up q
  · rw [if_neg c]
    exact q p s' hJ' hp (by rw [show n = k by omega]; exact up)
end
end L2
end
section
/-! A loop over any iterator whose items are known. -/
namespace L2
open PySem PySem.Spec PyProof.Rows
set_option maxHeartbeats 4000000
set_option Elab.async false
set_option linter.unusedVariables false
end L2
end
section
/-! Tuples of pairs held side by side. -/
namespace L2
open PySem PySem.Spec PyProof.Rows
set_option maxHeartbeats 4000000
set_option maxRecDepth 100000
set_option Elab.async false
set_option linter.unusedVariables false
/-- a row of pairs -/
def Prs (H : Hp) (xs : List V) (bl : List (Int × Int)) : Prop := xs.length = bl.length ∧ ∀ (j : Nat) (b : Int × Int), bl[j]? = some b → ∃ p, xs[j]? = some (.ref p) ∧ H p = some (.tup [.int b.1, .int b.2])
section
variable {X : Cx}
end
end L2
end
section
/-! sorted(l) of a list of pairs of ints whose first ones are all unlike. -/
namespace L2
open PySem PySem.Spec PySem.W PyProof.Rows
set_option maxHeartbeats 4000000
set_option maxRecDepth 100000
set_option Elab.async false
set_option linter.unusedVariables false
/-- at v stands the tuple (a, b) -/
def PairAt (h : Heap) (v : Value) (a b : Int) : Prop := ∃ (x : Addr) (o : Obj) (k : Nat) (t u : Tok), v = .ref x ∧ h.get? x = some o ∧ o.cls = .type "tuple" ∧ o.data = .seq #[.int a t, .int b u] k
def pOut (p : Array Nat) (vs : List Value) : Array Value := (p.toList.map fun i => vs.getD i Value.none).toArray
section
variable {prog : Program} {w : World} {A : Around} {E : Value → Shared → Prop} {s : Shared}
theorem pair_lt {v v' : Value} {a b a' b' : Int} {Q : Bool → Shared → Prop} (h : PairAt s.heap v a b) (h' : PairAt s.heap v' a' b') (e : a = a' → b = b') (q : Q (decide (a < a')) s) : wpAny (model prog w) A (keyLt' (tuples' true) v v') Q E s := by
  obtain ⟨x, o, k, t, u, rfl, ho, hc, hd⟩ := h
  obtain ⟨x', o', k', t', u', rfl, ho', hc', hd'⟩ := h'
  refine kat_lt ho hd ho' hd' (kat_cons (wpAny_eqBool_int (kat_go (fun z => kat_yes (kat_cons (wpAny_eqBool_int (kat_go (fun z2 => kat_yes (kat_nil ?_)) fun z2 => ?_)))) fun z => kat_no (oneLt_int q))))
  · have ea : a = a' := by simpa using z
    rw [decide_eq_false (by omega)] at q
    exact q
  · have ea : a = a' := by simpa using z
    have := e ea
    simp [this] at z2
theorem tups_of {vs : List Value} {ks : List (Int × Int)} (hl : vs.length = ks.length) (h : ∀ (i : Nat) v k, vs[i]? = some v → ks[i]? = some k → PairAt s.heap v k.1 k.2) : ∃ fs : List Value, KatTups s.heap vs fs ∧ fs.length = vs.length ∧ ∀ f ∈ fs, ∃ i t, f = .int i t := by
  induction vs generalizing ks with
  | nil => exact ⟨[], .nil, rfl, fun f hf => absurd hf List.not_mem_nil⟩
  | cons v vs ih =>
    cases ks with
    | nil => simp at hl
    | cons k ks =>
      obtain ⟨fs, a, b, c⟩ := ih (ks := ks) (by simpa using hl) fun i v' k' x y => h (i + 1) v' k' x y
      obtain ⟨x, o, m, t, u, rfl, ho, hc, hd⟩ := h 0 v k rfl rfl
      refine ⟨.int k.1 t :: fs, .cons ho hc hd rfl a, by simp [b], fun f hf => ?_⟩
      rcases List.mem_cons.mp hf with rfl | z
      · exact ⟨_, _, rfl⟩
      · exact c f z
theorem sort_pairs {a : Addr} {vs : List Value} {ks : List (Int × Int)} {n : Nat} {Fi : PySem.Fin → Shared → Prop} (ho : s.heap.get? a = some (seqObj "list" vs.toArray n)) (hl : vs.length = ks.length) (hP : ∀ (i : Nat) v k, vs[i]? = some v → ks[i]? = some k → PairAt s.heap v k.1 k.2)
    (nd : (ks.map (·.1)).Nodup) (h64 : vs.length < 64) (h : ∀ p, Pm vs.length p → Up (fun i => (ks.getD i (0, 0)).1) p vs.length → Fi (.done (.ret .none)) { s with heap := sortedHeap s.heap a vs (pOut p vs) }) :
    wpAny (model prog w) A (Builtin.«list.sort» ⟨[.ref a], []⟩) Fi E s := by
  have ha : a < s.heap.objs.size := Heap.lt_size ho
  have emptied := get?_update_seq ho fun _ => (#[] : Array Value)
  obtain ⟨ep, ho1⟩ : ∃ ep, (s.heap.update a (Obj.mapSeq fun _ => (#[] : Array Value))).get? a = some (seqObj "list" #[] ep) := ⟨_, emptied⟩
  generalize hh : ((s.heap.update a (Obj.mapSeq fun _ => (#[] : Array Value))).push (seqObj "tuple" vs.toArray 0)).push (seqObj "list" #[] 0) = h6
  have ho6 : h6.get? a = some (seqObj "list" #[] ep) := by rw [← hh]; exact Heap.get?_push_of_some _ (Heap.get?_push_of_some _ ho1)
  have old : ∀ {x : Addr} {o : Obj}, s.heap.get? x = some o → x ≠ a → h6.get? x = some o := fun {x o} e ne => by
    rw [← hh]
    exact Heap.get?_push_of_some _ (Heap.get?_push_of_some _ (by rw [Heap.get?_update_ne _ _ _ _ ne]; exact e))
  have hP6 : ∀ (i : Nat) v k, vs[i]? = some v → ks[i]? = some k → PairAt h6 v k.1 k.2 := fun i v k y1 y2 => by
    obtain ⟨x, o, m, t, u, rfl, hx, hc, hd⟩ := hP i v k y1 y2
    refine ⟨x, o, m, t, u, rfl, old hx fun z => ?_, hc, hd⟩
    rw [z, ho] at hx
    cases hx
    exact absurd (show Value.type "list" = Value.type "tuple" from hc) (by simp)
  have last : ∀ (out : Array Value) (f : Option Value), f = none → out.size ≤ sizeLine + 1 → Fi (.done (.ret .none)) { s with heap := sortedHeap s.heap a vs out } → Fi (.done (.ret .none)) { s with heap := h6.update a (Obj.mapSeq fun _ => out) } := fun out f _ _ z => by
    rw [← hh]; exact z
  have szv : vs.length ≤ sizeLine := by rw [sizeLine_eq]; omega
  rw [list_sort_plain]
  refine wpAny_bind (listItems_at ho rfl (wpAny_bind (listUpdate_at ho rfl (wpAny_bind (seqEpoch_at ho1 rfl (wpAny_bind (wpAny_newTuple (wpAny_bind (wpAny_newList (wpAny_holding ?_) (Nat.zero_le _))) szv)))) (by rw [List.size_toArray]; exact szv) (Nat.zero_le _))))
  simp only []
  rw [hh]
  have size_of : ∀ p, Pm vs.length p → (pOut p vs).size = vs.length := fun p hp => by
    unfold pOut
    rw [List.size_toArray, List.length_map, Array.length_toList, hp.size]
  by_cases c : vs.toArray.size < 2
  · rw [if_pos c, if_pos c]
    refine wpAny_bind (wpAny_pure ?_)
    rw [StateT.run_pure]
    refine wpAny_bind (wpAny_pure ?_)
    dsimp only
    have hp : Pm vs.length (List.range vs.length).toArray := ⟨by simp⟩
    have eo : (arrOf (SortSt.mk' general' (vs.toArray.zip vs.toArray) #[] 7 none)).map (·.2) = pOut (List.range vs.length).toArray vs := by
      show (vs.toArray.zip vs.toArray).map (·.2) = _
      unfold pOut
      apply Array.toList_inj.mp
      apply List.ext_getElem?
      intro i
      simp
      by_cases z : i < vs.length
      · simp [z]
      · simp [z]
    rw [eo]
    refine wpAny_bind (seqEpoch_at ho6 rfl (wpAny_bind (listUpdate_at ho6 rfl ?_ (Nat.zero_le _) (by rw [size_of _ hp]; omega))))
    simp only [bne_self_eq_false, Bool.false_eq_true, if_false]
    refine wpAny_pure (last _ none rfl (by rw [size_of _ hp]; omega) (h _ hp fun j h1 h2 => ?_))
    rw [List.size_toArray] at c
    omega
  · rw [if_neg c, if_neg c]
    rw [List.size_toArray] at c
    obtain ⟨fs, ft, fl, fi⟩ := tups_of (s := { s with heap := h6 }) hl hP6
    refine wpAny_bind (kat_kind (T := .type "int") ft (by omega) (fun v hv => ?_) (by decide) ?_)
    · obtain ⟨i, t, rfl⟩ := fi v hv
      exact .now
    have inj : ∀ i j, i < vs.length → j < vs.length → (ks.getD i (0, 0)).1 = (ks.getD j (0, 0)).1 → i = j := fun i j hi hj e => by
      have pw := List.pairwise_iff_getElem.mp nd
      have g : ∀ k, k < vs.length → ∃ h : k < (ks.map (·.1)).length, (ks.map (·.1))[k] = (ks.getD k (0, 0)).1 := fun k hk => by
        have hk' : k < ks.length := by omega
        refine ⟨by rw [List.length_map]; exact hk', ?_⟩
        rw [List.getElem_map, List.getD_eq_getElem?_getD, List.getElem?_eq_getElem hk']
        rfl
      obtain ⟨a1, b1⟩ := g i hi
      obtain ⟨a2, b2⟩ := g j hj
      rcases Nat.lt_trichotomy i j with z | z | z
      · exact absurd (by rw [b1, b2]; exact e) (pw i j a1 a2 z)
      · exact z
      · exact absurd (by rw [b1, b2]; exact e.symm) (pw j i a2 a1 z)
    have told : Told (kas_ask prog w A (tuples' (Value.type "int" != Value.type "tuple")) vs) (fun i => (ks.getD i (0, 0)).1) (fun s' => s' = { s with heap := h6 }) vs.length := fun i j C s' hi hj hs q => by
      subst hs
      have at_ : ∀ k, k < vs.length → PairAt h6 (vs.getD k Value.none) (ks.getD k (0, 0)).1 (ks.getD k (0, 0)).2 := fun k hk => by
        have hk' : k < ks.length := by omega
        have := hP6 k _ _ (List.getElem?_eq_getElem hk) (List.getElem?_eq_getElem hk')
        rw [List.getD_eq_getElem?_getD, List.getD_eq_getElem?_getD, List.getElem?_eq_getElem hk, List.getElem?_eq_getElem hk']
        exact this
      refine pair_lt (at_ i hi) (at_ j hj) (fun e => by rw [inj i j hi hj e]) (q _ rfl)
    refine wpAny_bind (wpAny_mono (kat_run (Q := fun st' s' => ∃ p : Array Nat, arrOf st' = p.map (kas_item (vs.toArray.zip vs.toArray)) ∧ failedOf st' = none ∧ s' = { s with heap := h6 } ∧ Pm vs.length p ∧ Up (fun i => (ks.getD i (0, 0)).1) p vs.length)
      rfl (by omega) h64 (fun p st' s' _ a2 a3 a4 => ⟨p, a2, a3, a4⟩) (go_sort told (by omega) inj rfl fun p s' hs hp up => ⟨hs, hp, up⟩)) ?_ fun _ _ e => e)
    rintro ⟨⟨⟩, st'⟩ s' ⟨p, har, hf, rfl, hp, up⟩
    dsimp only
    have eo : (arrOf st').map (·.2) = pOut p vs := kat_snds rfl har
    rw [eo]
    refine wpAny_bind (seqEpoch_at ho6 rfl (wpAny_bind (listUpdate_at ho6 rfl ?_ (Nat.zero_le _) (by rw [size_of _ hp]; omega))))
    rw [hf]
    simp only [bne_self_eq_false, Bool.false_eq_true, if_false]
    exact wpAny_pure (last _ none rfl (by rw [size_of _ hp]; omega) (h p hp up))
end
end L2
namespace L2
open PySem PySem.Spec PySem.W PyProof.Rows
set_option maxHeartbeats 4000000
set_option maxRecDepth 100000
def rSortP : List V → Hp → VK → Prop := fun xs H Q => ∃ (a : Addr) (ys : List V) (bl : List (Int × Int)), xs = [.ref a] ∧ H a = some (.lst ys) ∧ Prs H ys bl ∧ (bl.map (·.1)).Nodup ∧ bl.length < 64 ∧
  ∀ (bl' : List (Int × Int)) (zs : List V) (l : Addr), bl'.Perm bl → bl'.Pairwise (fun x y => x.1 < y.1) → Prs H zs bl' → H l = none → Q (.ref l) (upd H l (.lst zs))
theorem call_sortP {X : Cx} : CallR X (.builtin "sorted") rSortP := by
  intro pins s σ H xs us Q I r h
  obtain ⟨a, ys, bl, rfl, ha, pr, nd, h64, q⟩ := h
  obtain ⟨u, rfl, rx⟩ := vals1 r
  cases (show u = Value.ref a from rx)
  obtain ⟨hz, vs, n, rv, ho⟩ : ys.length ≤ sizeLine ∧ ∃ (its : List Value) (n : Nat), Vals ys its ∧ s.heap.get? a = some { cls := .type "list", data := .seq its.toArray n } := I.hok a _ ha
  have lv : vs.length = bl.length := by rw [← pr.1]; exact rv.length.symm
  have szv : vs.length ≤ sizeLine := by rw [sizeLine_eq]; omega
  have hP : ∀ (i : Nat) v k, vs[i]? = some v → bl[i]? = some k → PairAt s.heap v k.1 k.2 := fun i v k e1 e2 => by
    obtain ⟨p, e3, hp⟩ := pr.2 i k e2
    obtain ⟨u, e4, ru⟩ := rv.get e3
    rw [e1] at e4
    have ev : v = .ref p := (Option.some.inj e4).trans (show u = Value.ref p from ru)
    obtain ⟨_, its, rt, o, g1, g2, k2, g3⟩ : [V.int k.1, V.int k.2].length ≤ sizeLine ∧ ∃ its : List Value, Vals [.int k.1, .int k.2] its ∧ IsTup s.heap p its.toArray := I.hok p _ hp
    obtain ⟨w1, w2, rfl, r1, r2⟩ := rt.two
    obtain ⟨t1, rfl⟩ := (show ∃ t, w1 = Value.int k.1 t from r1)
    obtain ⟨t2, rfl⟩ := (show ∃ t, w2 = Value.int k.2 t from r2)
    exact ⟨p, o, k2, t1, t2, ev, g1, g2, g3⟩
  refine Calls.call_function_entry kind_sorted plain_sorted entry_sorted (args_sorted1 _) ?_
  unfold Builtin.«sorted»
  refine wpAny_bind (m := checkCount "sorted" 1 1 _) (wpAny_pure (wpAny_bind (collect_list (vs := vs) ⟨_, ho, rfl, n, rfl⟩ ?_ szv)))
  have old1 : ∀ b o, s.heap.get? b = some o → ((s.heap.push (seqObj "list" #[] 0)).update s.heap.objs.size (Obj.mapSeq (· ++ vs.toArray))).get? b = some o := fun b o e => by
    rw [Heap.get?_update_ne _ _ _ _ (Nat.ne_of_lt (Heap.lt_size e))]
    exact Heap.get?_push_of_some _ e
  have sz1 : s.heap.objs.size ≤ ((s.heap.push (seqObj "list" #[] 0)).update s.heap.objs.size (Obj.mapSeq (· ++ vs.toArray))).objs.size := by
    rw [Heap.size_update, size_push']
    exact Nat.le_succ _
  generalize (s.heap.push (seqObj "list" #[] 0)).update s.heap.objs.size (Obj.mapSeq (· ++ vs.toArray)) = h1 at old1 sz1 ⊢
  refine wpAny_bind (wpAny_newList ?_ szv)
  have hoL : (h1.push (seqObj "list" vs.toArray 0)).get? h1.objs.size = some (seqObj "list" vs.toArray 0) := Heap.get?_push_size _ rfl
  refine wpAny_bind (wpAny_holding (wpAny_call_entry slot_list_sort ⟨_, hoL, rfl⟩ entry_list_sort (sort_pairs (s := { s with heap := h1.push (seqObj "list" vs.toArray 0) }) (ks := bl) hoL lv (fun i v k e1 e2 => ?_) nd (by omega) fun p hp up => ⟨_, rfl, ?_⟩) (args_list_sort _)))
  · obtain ⟨x, o, m, t, u, e, g, c⟩ := hP i v k e1 e2
    exact ⟨x, o, m, t, u, e, Heap.get?_push_of_some _ (old1 _ _ g), c⟩
  obtain ⟨e, he⟩ := sortedHeap_at (out := pOut p vs) hoL
  have old : ∀ b o, s.heap.get? b = some o → (sortedHeap (h1.push (seqObj "list" vs.toArray 0)) h1.objs.size vs (pOut p vs)).get? b = some o := fun b o eb => by
    have lt := Nat.lt_of_lt_of_le (Heap.lt_size eb) sz1
    rw [sortedHeap_old (h := h1.push (seqObj "list" vs.toArray 0)) (b := b) (Nat.ne_of_lt lt) (by rw [Heap.size_push]; exact Nat.lt_succ_of_lt lt)]
    exact Heap.get?_push_of_some _ (old1 _ _ eb)
  have inside : ∀ i, i ∈ p.toList → i < bl.length := fun i hi => by
    have := List.mem_range.mp (hp.perm.mem_iff.mp hi)
    omega
  have pt : ∀ i, i < bl.length → ∃ x, ys.getD i V.non = .ref x ∧ H x = some (.tup [.int (bl.getD i (0, 0)).1, .int (bl.getD i (0, 0)).2]) ∧ vs.getD i Value.none = .ref x := fun i hi => by
    obtain ⟨x, e1, e2⟩ := pr.2 i _ (List.getElem?_eq_getElem hi)
    obtain ⟨u, e4, ru⟩ := rv.get e1
    refine ⟨x, ?_, ?_, ?_⟩
    · rw [List.getD_eq_getElem?_getD, e1]; rfl
    · rw [List.getD_eq_getElem?_getD, List.getElem?_eq_getElem hi]; exact e2
    · rw [List.getD_eq_getElem?_getD, e4]; exact (show u = Value.ref x from ru)
  have rz : Vals (p.toList.map fun i => ys.getD i V.non) (p.toList.map fun i => vs.getD i Value.none) := by
    have : ∀ l : List Nat, (∀ i ∈ l, i < bl.length) → Vals (l.map fun i => ys.getD i V.non) (l.map fun i => vs.getD i Value.none) := fun l => by
      induction l with
      | nil => intro _; exact .nil
      | cons i l ih =>
        intro hl
        obtain ⟨x, e1, _, e2⟩ := pt i (hl i List.mem_cons_self)
        refine .cons ?_ (ih fun j hj => hl j (List.mem_cons_of_mem _ hj))
        show RelV (ys.getD i V.non) (vs.getD i Value.none)
        rw [e1, e2]
        rfl
    exact this _ inside
  have lp : p.toList.length = bl.length := by rw [Array.length_toList, hp.size, lv]
  have fin := q (p.toList.map fun i => bl.getD i (0, 0)) (p.toList.map fun i => ys.getD i V.non) h1.objs.size ?_ ?_ ?_ (I.hok.fresh sz1)
  · refine wpAny_pure ⟨_, rfl, .ref h1.objs.size, _, I.laid (a := h1.objs.size) (t' := s.toks) (o := .lst (p.toList.map fun i => ys.getD i V.non)) old sz1 ?_, rfl, fin⟩
    exact ⟨by rw [List.length_map, lp, sizeLine_eq]; omega, _, e, rz, he⟩
  · have h2 : (List.range vs.length).map (fun i => bl.getD i (0, 0)) = bl := by
      apply List.ext_getElem?
      intro i
      rw [List.getElem?_map, lv]
      by_cases z : i < bl.length
      · rw [List.getElem?_range z, List.getElem?_eq_getElem z]
        show some (bl.getD i (0, 0)) = _
        rw [List.getD_eq_getElem?_getD, List.getElem?_eq_getElem z]
        rfl
      · rw [List.getElem?_eq_none (by simpa using z), List.getElem?_eq_none (by omega)]
        rfl
    have h3 := hp.perm.map fun i => bl.getD i (0, 0)
    rw [h2] at h3
    exact h3
  · rw [List.pairwise_map]
    refine List.pairwise_iff_getElem.mpr fun i j hi hj hij => ?_
    have ei : p.getD i 0 = p.toList[i] := by simp [Array.getD, show i < p.size by simpa using hi]
    have ej : p.getD j 0 = p.toList[j] := by simp [Array.getD, show j < p.size by simpa using hj]
    have := up.lt' hij (by rw [lv, ← lp]; exact hj)
    rw [ei, ej] at this
    exact this
  · refine ⟨by rw [List.length_map, List.length_map], fun j b hb => ?_⟩
    rw [List.getElem?_map] at hb
    cases ej : p.toList[j]? with
    | none => rw [ej] at hb; cases hb
    | some i =>
      rw [ej] at hb
      cases hb
      obtain ⟨x, e1, e2, _⟩ := pt i (inside i (List.mem_of_getElem? ej))
      refine ⟨x, ?_, e2⟩
      rw [List.getElem?_map, ej]
      exact congrArg some e1
end L2
end
section
/-! Lists of pairs held side by side. -/
namespace L2
open PySem PySem.Spec PyProof.Rows
set_option maxHeartbeats 4000000
set_option maxRecDepth 100000
set_option Elab.async false
set_option linter.unusedVariables false
section
variable {X : Cx}
end
end L2
end
section
/-! l == []. -/
namespace L2
open PySem PySem.Spec PyProof.Rows
set_option maxHeartbeats 4000000
set_option Elab.async false
set_option linter.unusedVariables false
section
variable {X : Cx}
end
end L2
end
section
/-! A list comprehension of two clauses. -/
namespace L2
open PySem PySem.Spec PyProof.Rows
set_option maxHeartbeats 4000000
set_option Elab.async false
set_option linter.unusedVariables false
section
variable {elt tg iter tg' iter' : Expr} {g0 : Comprehension} {scope : Scope} {pos : Pos} {it acc : Value} {env : Env}
theorem turn_deep : compTurn (.ListComp elt [g0, ⟨tg, iter, [], 0⟩] scope pos) 1 it acc env = (standAt iter.pos >>= fun _ => pyNext it >>= fun r => match r with
    | none => pure (.done .next)
    | some v => letOwnedTupleGo tg it v >>= fun _ => assign tg env v >>= fun _ => (eval elt env >>= fun x => call (.builtin "list.append") [acc, x] >>= fun _ => pure ()) >>= fun _ =>
        again (.compLoop (.ListComp elt [g0, ⟨tg, iter, [], 0⟩] scope pos) 1 it acc env)) := by rfl
theorem turn_out : compTurn (.ListComp elt [⟨tg, iter, [], 0⟩, ⟨tg', iter', [], 0⟩] scope pos) 0 it acc env = (standAt iter.pos >>= fun _ => pyNext it >>= fun r => match r with
    | none => pure (.done .next)
    | some v => letOwnedTupleGo tg it v >>= fun _ => assign tg env v >>= fun _ =>
        eval iter' env >>= fun x => standAt iter'.pos >>= fun _ => foldedSetIterable iter' env x >>= fun x => holding [x] (pyIter x) >>= fun i =>
          runOwn (.compStart (.ListComp elt [⟨tg, iter, [], 0⟩, ⟨tg', iter', [], 0⟩] scope pos) 1 i acc env) env >>= fun _ =>
        again (.compLoop (.ListComp elt [⟨tg, iter, [], 0⟩, ⟨tg', iter', [], 0⟩] scope pos) 0 it acc env)) := by rfl
end
section
variable {prog : Program} {w : World} {A : Around} {s : Shared} {R : Result → Shared → Prop} {elt tg iter tg' iter' : Expr} {g0 : Comprehension} {scope : Scope} {pos : Pos} {it acc : Value} {env : Env}
theorem deep_start (h0 : codeAny (model prog w) A (.compLoop (.ListComp elt [g0, ⟨tg, iter, [], 0⟩] scope pos) 1 it acc env) R s)
    (h : wpAny (model prog w) A (pyIter it) (fun i s' => codeAny (model prog w) A (.compLoop (.ListComp elt [g0, ⟨tg, iter, [], 0⟩] scope pos) 1 i acc env) R s') (fun _ _ => False) s) :
    codeAny (model prog w) A (.compStart (.ListComp elt [g0, ⟨tg, iter, [], 0⟩] scope pos) 1 it acc env) R s := by
  have two : wpAny (model prog w) A (compStart (.ListComp elt [g0, ⟨tg, iter, [], 0⟩] scope pos) 1 it acc env) (fun f s' => match f with | .done v => R (.ok v) s' | .again c => c.quiet = true ∧ codeAny (model prog w) A c R s') (fun _ _ => False) s := by
    have e : compStart (.ListComp elt [g0, ⟨tg, iter, [], 0⟩] scope pos) 1 it acc env = (ask >>= fun a => if a.params.followText "comprehension-iter-twice" = true then again (.compLoop (.ListComp elt [g0, ⟨tg, iter, [], 0⟩] scope pos) 1 it acc env) >>= pure
        else rule "comprehension.iter-twice" >>= fun _ => standAt iter.pos >>= fun _ => pyIter it >>= fun i => again (.compLoop (.ListComp elt [g0, ⟨tg, iter, [], 0⟩] scope pos) 1 i acc env)) := by rfl
    rw [e]
    refine wpAny_bind (wpAny_askSetting ?_)
    split
    · exact wpAny_bind (wpAny_pure (wpAny_pure ⟨rfl, h0⟩))
    · exact wpAny_bind (wpAny_rule (wpAny_bind (wpAny_standAt (wpAny_bind (wpAny_mono h (fun _ _ q => wpAny_pure ⟨rfl, q⟩) fun _ _ z => z.elim)))))
  refine codeAny_of_tree ?_
  show wpAny _ _ ((compStart (.ListComp elt [g0, ⟨tg, iter, [], 0⟩] scope pos) 1 it acc env).onRaise (fun x => do noteFrame x env; standAt theWindowsPlace)) _ _ s
  exact wpAny_notedAt (wpAny_mono two (fun f s' q => q) fun _ _ z => z.elim)
theorem deep_turns (J : Nat → Shared → Prop)
    (turn : ∀ n s, J n s → wpAny (model prog w) A (pyNext it) (fun r s1 => match r with
      | none => R (.ok .next) s1
      | some v => wpAny (model prog w) A (letOwnedTupleGo tg it v) (fun _ s2 => wpAny (model prog w) A (assign tg env v) (fun _ s3 =>
          wpAny (model prog w) A (eval elt env) (fun x s5 => wpAny (model prog w) A (call (.builtin "list.append") [acc, x]) (fun _ s6 => ∃ m, m < n ∧ J m s6) (fun _ _ => False) s5) (fun _ _ => False) s3) (fun _ _ => False) s2) (fun _ _ => False) s1) (fun _ _ => False) s)
    (n : Nat) (h : J n s) : codeAny (model prog w) A (.compLoop (.ListComp elt [g0, ⟨tg, iter, [], 0⟩] scope pos) 1 it acc env) R s := by
  refine codeAny_loop rfl J (fun k s' hJ => ?_) n h
  show wpAny _ A ((compTurn (.ListComp elt [g0, ⟨tg, iter, [], 0⟩] scope pos) 1 it acc env).onRaise (fun x => do noteFrame x env; theTreesLotGoes x)) _ _ s'
  refine wpAny_noted ?_
  rw [turn_deep]
  refine wpAny_bind (wpAny_standAt (wpAny_bind (wpAny_mono (turn k s' hJ) (fun r s1 q1 => ?_) fun _ _ z => z.elim)))
  cases r with
  | none => exact wpAny_pure q1
  | some v =>
    exact wpAny_bind (wpAny_mono q1 (fun _ s2 q2 => wpAny_bind (wpAny_mono q2 (fun _ s3 q3 => wpAny_bind (wpAny_bind (wpAny_mono q3 (fun x s5 q5 => wpAny_bind (wpAny_mono q5 (fun _ s6 q6 => wpAny_pure (wpAny_pure ⟨rfl, q6⟩)) fun _ _ z => z.elim)) fun _ _ z => z.elim))) fun _ _ z => z.elim)) fun _ _ z => z.elim)
theorem out_turns (hs : ∀ x, foldedSetIterable iter' env x = pure x) (J : Nat → Shared → Prop)
    (turn : ∀ n s, J n s → wpAny (model prog w) A (pyNext it) (fun r s1 => match r with
      | none => R (.ok .next) s1
      | some v => wpAny (model prog w) A (letOwnedTupleGo tg it v) (fun _ s2 => wpAny (model prog w) A (assign tg env v) (fun _ s3 =>
          wpAny (model prog w) A (eval iter' env) (fun x s4 => wpAny (model prog w) A (pyIter x) (fun i s5 =>
            codeAny (model prog w) A (.compStart (.ListComp elt [⟨tg, iter, [], 0⟩, ⟨tg', iter', [], 0⟩] scope pos) 1 i acc env) (fun r s6 => r = .ok .next ∧ ∃ m, m < n ∧ J m s6) s5) (fun _ _ => False) s4) (fun _ _ => False) s3) (fun _ _ => False) s2) (fun _ _ => False) s1) (fun _ _ => False) s)
    (n : Nat) (h : J n s) : codeAny (model prog w) A (.compLoop (.ListComp elt [⟨tg, iter, [], 0⟩, ⟨tg', iter', [], 0⟩] scope pos) 0 it acc env) R s := by
  refine codeAny_loop rfl J (fun k s' hJ => ?_) n h
  show wpAny _ A ((compTurn (.ListComp elt [⟨tg, iter, [], 0⟩, ⟨tg', iter', [], 0⟩] scope pos) 0 it acc env).onRaise (fun x => do noteFrame x env; theTreesLotGoes x)) _ _ s'
  refine wpAny_noted ?_
  rw [turn_out]
  refine wpAny_bind (wpAny_standAt (wpAny_bind (wpAny_mono (turn k s' hJ) (fun r s1 q1 => ?_) fun _ _ z => z.elim)))
  cases r with
  | none => exact wpAny_pure q1
  | some v =>
    refine wpAny_bind (wpAny_mono q1 (fun _ s2 q2 => wpAny_bind (wpAny_mono q2 (fun _ s3 q3 => wpAny_bind (wpAny_mono q3 (fun x s4 q4 => ?_) fun _ _ z => z.elim)) fun _ _ z => z.elim)) fun _ _ z => z.elim)
    refine wpAny_bind (wpAny_standAt (wpAny_bind (wpAny_of_eq (hs x) (wpAny_bind (wpAny_holding (wpAny_mono q4 (fun i s5 q5 => ?_) fun _ _ z => z.elim))))))
    refine wpAny_bind (wpAny_runOwn (codeAny_mono q5 fun r s6 q6 => ?_))
    obtain ⟨e, q6⟩ := q6
    subst e
    exact wpAny_pure ⟨rfl, q6⟩
end
/-- the inner clause: W the invariant, N what holds behind it -/
def cmpD (J : It) (g : TG) (te : TE) (N : St → Hp → Prop) (D : Addr) (σ : St) (H : Hp) : Prop := ∃ W : Nat → Nat → St → Hp → Prop, (∃ m, W 0 m σ H) ∧
  ∀ i m σ' H', W i m σ' H' → (J.stop i H' ∧ N σ' H') ∨ (J.go i H' ∧ ∀ x H2, J.yld i H' x H2 → g x σ' H2 fun σ3 H3 => te σ3 H3 fun y H5 =>
    ∃ ys, H5 D = some (.lst ys) ∧ ys.length < sizeLine ∧ ∃ m', m' < m ∧ W (i + 1) m' σ3 (upd H5 D (.lst (ys ++ [y]))))
/-- the outer one -/
def cmpO (J : It) (g : TG) (wi : TI) (g' : TG) (te : TE) (Q : VK) (D : Addr) (σ0 : St) (H1 : Hp) : Prop := ∃ W : Nat → Nat → St → Hp → Prop, (∃ m, W 0 m σ0 (upd H1 D (.lst []))) ∧
  ∀ i m σ' H', W i m σ' H' → (J.stop i H' ∧ Q (.ref D) H') ∨ (J.go i H' ∧ ∀ x H2, J.yld i H' x H2 → g x σ' H2 fun σ3 H3 => wi σ3 H3 fun J' H4 =>
    cmpD J' g' te (fun σ5 H5 => ∃ m', m' < m ∧ W (i + 1) m' σ5 H5) D σ3 H4)
def tComp2 (nt : Nat) (js : List Nat) (wi : TI) (g : TG) (wi' : TI) (g' : TG) (te : TE) : TE := fun σ H Q => wi σ H fun J H1 => ∀ D, H1 D = none → cmpO J g wi' g' te Q D (inner nt js σ) H1
theorem deep_code {Y : Cx} {elt tg iter : Expr} {g0 : Comprehension} {scope : Scope} {pos : Pos} {wi : TI} {g : TG} {te : TE} {D : Addr} (hc : Y.calm = true) (hi : PI Y tg iter wi) (hg : PG Y tg g) (he : PE Y elt te)
    (hx : Y.xe = fun _ _ => False) {pins : List (Addr × Obj)} {s : Shared} {σ : St} {H : Hp} {N : St → Hp → Prop} (I : Inv Y pins σ H s) (h : wi σ H fun J H1 => cmpD J g te N D σ H1) :
    wpAny (model Y.prog Y.w) Y.A (eval iter Y.env) (fun x s4 => wpAny (model Y.prog Y.w) Y.A (pyIter x) (fun i s5 =>
      codeAny (model Y.prog Y.w) Y.A (.compStart (.ListComp elt [g0, ⟨tg, iter, [], 0⟩] scope pos) 1 i (.ref D) Y.env) (fun r s6 => r = .ok .next ∧ ∃ σ' H', Inv Y pins σ' H' s6 ∧ N σ' H') s5) (fun _ _ => False) s4) (fun _ _ => False) s := by
  have hi' := hi pins s σ H _ I h
  rw [hx] at hi'
  refine thn hi' fun v s1 q1 => thn q1 fun itv s2 q2 => ?_
  obtain ⟨it, fp, tn, J, H2, e, I2, T, st2, f2, W, ⟨m0, w0⟩, turn⟩ := q2
  subst e
  have stat : ∀ {H' : Hp}, (∀ b ∈ fp, H' b = none) → ∀ b ∈ fp, FpOk Y pins H' b := fun hn b hb => ⟨hn b hb, (f2 b hb).2⟩
  have loop : codeAny (model Y.prog Y.w) Y.A (.compLoop (.ListComp elt [g0, ⟨tg, iter, [], 0⟩] scope pos) 1 (.ref it) (.ref D) Y.env) (fun r s6 => r = .ok .next ∧ ∃ σ' H', Inv Y pins σ' H' s6 ∧ N σ' H') s2 := by
    refine deep_turns (fun n s' => ∃ i σ' H', Inv Y pins σ' H' s' ∧ tn i s'.heap ∧ (∀ b ∈ fp, H' b = none) ∧ W i n σ' H') ?_ m0 ⟨0, _, _, I2, st2, fun b hb => (f2 b hb).1, w0⟩
    rintro n s3 ⟨i, σ3, H3, I3, st3, fr3, w3⟩
    rcases turn i n σ3 H3 w3 with ⟨stop, qn⟩ | ⟨go, step⟩
    · refine thn (T.done Y rfl rfl rfl hc i pins s3 σ3 H3 _ I3 (stat fr3) st3 stop) fun r s4 ⟨hr, I4⟩ => ?_
      subst hr
      exact ⟨rfl, σ3, H3, I4, qn⟩
    · refine thn (T.item Y rfl rfl rfl hc i pins s3 σ3 H3 _ I3 (stat fr3) st3 go) fun r s4 ⟨u, hr, h4⟩ => ?_
      subst hr
      refine thn h4 fun _ s5 ⟨x, H5, I5, r5, y5, st5, fr5⟩ => ?_
      have I5' := I5.pinned (stat fr5) (T.obj _ _ st5)
      have hg' := hg _ s5 σ3 H5 x u _ I5' r5 (step x H5 y5)
      rw [hx] at hg'
      refine thn hg' fun _ s6 ⟨σ6, H6, I6, q6⟩ => ?_
      have he' := he _ s6 σ6 H6 _ I6 q6
      rw [hx] at he'
      refine thn he' fun y s8 ⟨v8, H8, I8, r8, ys, e8, z8, k, hk, w8⟩ => ?_
      have ha := mt_append _ s8 σ6 H8 (.ref D) [v8] _ [y] (fun _ H9 => W (i + 1) k σ6 H9) I8 rfl (.cons r8 .nil) ⟨_, ys, v8, rfl, rfl, e8, z8, w8⟩
      rw [hx] at ha
      refine thn ha fun _ s9 ⟨_, H9, I9, _, w9⟩ => ?_
      refine ⟨k, hk, i + 1, σ6, H9, I9.unpinned, T.keep _ _ _ st5 fun b hb o eb => (I9.pin (b, o) (List.mem_append_right _ (List.mem_append_right _ (mem_pinsAt hb eb)))).1, fun b hb => ?_, w9⟩
      obtain ⟨o, eb, _⟩ := T.obj _ _ st5 b hb
      exact (I9.pin (b, o) (List.mem_append_right _ (List.mem_append_right _ (mem_pinsAt hb eb)))).2.1
  exact deep_start loop (T.self _ 0 _ _ _ st2 loop)
end L2
end
section
/-! Readings of a comprehension of two clauses. -/
namespace L2
open PySem PySem.Spec PyProof.Rows
set_option maxHeartbeats 4000000
set_option Elab.async false
set_option linter.unusedVariables false
/-- all stays but at a -/
def But (a : Addr) (H H' : Hp) : Prop := ∀ c o, c ≠ a → H c = some o → H' c = some o
theorem But.refl (a : Addr) (H : Hp) : But a H H := fun _ _ _ h => h
theorem But.trans {a : Addr} {H1 H2 H3 : Hp} (x : But a H1 H2) (y : But a H2 H3) : But a H1 H3 := fun c o n h => y c o n (x c o n h)
theorem But.of {a : Addr} {H H' : Hp} (s : Same H H') : But a H H' := fun c o _ h => s c o h
theorem But.upd {a : Addr} {H : Hp} (o : HO) : But a H (upd H a o) := fun c u n h => by rw [upd_ne n]; exact h
section
variable {X : Cx} {elt iter iter' : Expr} {scope : Scope} {pos : Pos} {N : List Str} {js : List Nat} {sc : Scope} {N0 : List Str} {wi wi' : TI} {te : TE} {x y z : Str} {px py pz tp : Pos} {k : Nat}
end
end L2
end
section
/-! A statement that raises nothing, where something may be raised. -/
namespace L2
open PySem PySem.Spec PyProof.Rows
set_option maxHeartbeats 4000000
set_option Elab.async false
end L2
end
section
/-! A place in the middle: what holds behind a statement is said once. -/
namespace L2
open PySem PySem.Spec PyProof.Rows
set_option maxHeartbeats 4000000
set_option Elab.async false
set_option linter.unusedVariables false
end L2
end
section
/-! Lists of tuples of tuples held side by side, where they are the same. -/
namespace L2
open PySem PySem.Spec PyProof.Rows
set_option maxHeartbeats 4000000
set_option maxRecDepth 100000
set_option Elab.async false
set_option linter.unusedVariables false
/-- the same, at most n tuples deep -/
def De (H : Hp) : Nat → V → V → Prop
  | 0, x, y => ∃ i : Int, x = .int i ∧ y = .int i
  | n + 1, x, y => De H n x y ∨ ∃ (a b : Addr) (xs ys : List V), x = .ref a ∧ y = .ref b ∧ H a = some (.tup xs) ∧ H b = some (.tup ys) ∧ xs.length = ys.length ∧ ∀ (j : Nat) (u v : V), xs[j]? = some u → ys[j]? = some v → De H n u v
section
variable {X : Cx}
theorem de_eqAt {pins : List (Addr × Obj)} {s : Shared} {σ : St} {H : Hp} (I : Inv X pins σ H s) : ∀ (n : Nat) {A : Around} {x y : V} {u v : Value}, A.units + n < cLine → De H n x y → RelV x u → RelV y v → SeqAt.EqAt A s u v true
  | 0, A, x, y, u, v, _, d, r1, r2 => by
    obtain ⟨i, rfl, rfl⟩ := d
    obtain ⟨t, rfl⟩ := (show ∃ t, u = Value.int i t from r1)
    obtain ⟨t', rfl⟩ := (show ∃ t, v = Value.int i t from r2)
    have := SeqAt.EqAt.int_int (A := A) (s := s) i t i t'
    rw [beq_self_eq_true] at this
    exact this
  | n + 1, A, x, y, u, v, hu, d, r1, r2 => by
    rcases d with d | ⟨a, b, xs, ys, rfl, rfl, ha, hb, hl, hd⟩
    · exact de_eqAt I n (by omega) d r1 r2
    cases (show u = Value.ref a from r1)
    cases (show v = Value.ref b from r2)
    by_cases e : a = b
    · subst e
      exact SeqAt.EqAt.same _
    obtain ⟨_, i1, s1, q1⟩ := I.hok a _ ha
    obtain ⟨_, i2, s2, q2⟩ := I.hok b _ hb
    have z1 := s1.length
    have z2 := s2.length
    have e3 := SeqAt.RcAt.tuples (A := A) (s := s) (e := fun _ => true) (show s.heap.IsTuple a i1.toArray from q1) (show s.heap.IsTuple b i2.toArray from q2) (by omega) fun j h1 h2 => by
      simp only [List.size_toArray] at h1 h2
      have g1 := List.getElem?_eq_getElem (show j < xs.length by omega)
      have g2 := List.getElem?_eq_getElem (show j < ys.length by omega)
      obtain ⟨w1, f1, p1⟩ := s1.get g1
      obtain ⟨w2, f2, p2⟩ := s2.get g2
      have a1 : i1.toArray[j]'(by simpa using h1) = w1 := by
        have := (List.getElem?_eq_some_iff.mp f1).2
        simpa using this
      have a2 : i2.toArray[j]'(by simpa using h2) = w2 := by
        have := (List.getElem?_eq_some_iff.mp f2).2
        simpa using this
      rw [a1, a2]
      exact de_eqAt I n (A := A.in1) (by show A.units + 1 + n < cLine; omega) (hd j _ _ g1 g2) p1 p2
    refine SeqAt.EqAt.of_refs e ?_
    have e4 : ((List.range (min i1.toArray.size i2.toArray.size)).all (fun _ => true) && i1.toArray.size == i2.toArray.size) = true := by
      simp only [List.size_toArray]
      rw [← z1, ← z2, hl, beq_self_eq_true, Bool.and_true]
      exact List.all_eq_true.mpr fun _ _ => rfl
    rw [e4] at e3
    exact e3
end
end L2
end
section
/-! Rings held side by side: (many, (ball, ..)). -/
namespace L2
open PySem PySem.Spec PyProof.Rows
set_option maxHeartbeats 4000000
set_option maxRecDepth 100000
set_option Elab.async false
set_option linter.unusedVariables false
/-- a ring: how many boxes, and the balls -/
def RgAt (H : Hp) (a : Addr) (n : Int) (ns : List Int) : Prop := ∃ p, H a = some (.tup [.int n, .ref p]) ∧ H p = some (.tup (ns.map V.int))
theorem RgAt.same {H H' : Hp} {a : Addr} {n : Int} {ns : List Int} (h : RgAt H a n ns) (s : Same H H') : RgAt H' a n ns := by
  obtain ⟨p, h1, h2⟩ := h
  exact ⟨p, s _ _ h1, s _ _ h2⟩
section
variable {X : Cx}
theorem rg_eqAt {pins : List (Addr × Obj)} {s : Shared} {σ : St} {H : Hp} {a b : Addr} {n m : Int} {ns ms : List Int} (I : Inv X pins σ H s) (hu : X.A.units + 1 < cLine) (ha : RgAt H a n ns) (hb : RgAt H b m ms) :
    ∃ i1 i2 : List Value, s.heap.IsTuple a i1.toArray ∧ s.heap.IsTuple b i2.toArray ∧ i1.length = 2 ∧ i2.length = 2 ∧ ∀ j (h1 : j < i1.toArray.size) (h2 : j < i2.toArray.size), SeqAt.EqAt X.A.in1 s i1.toArray[j] i2.toArray[j] ((fun j => if j = 0 then n == m else decide (ns = ms)) j) := by
  obtain ⟨p, ha, hp⟩ := ha
  obtain ⟨q, hb, hq⟩ := hb
  obtain ⟨_, i1, r1, q1⟩ := I.hok a _ ha
  obtain ⟨_, i2, r2, q2⟩ := I.hok b _ hb
  obtain ⟨w1, w2, rfl, r11, r12⟩ := r1.two
  obtain ⟨z1, z2, rfl, r21, r22⟩ := r2.two
  obtain ⟨t1, rfl⟩ := (show ∃ t, w1 = Value.int n t from r11)
  obtain ⟨t2, rfl⟩ := (show ∃ t, z1 = Value.int m t from r21)
  cases (show w2 = Value.ref p from r12)
  cases (show z2 = Value.ref q from r22)
  refine ⟨_, _, q1, q2, rfl, rfl, fun j h1 h2 => ?_⟩
  match j, h1, h2 with
  | 0, _, _ => exact SeqAt.EqAt.int_int n t1 m t2
  | 1, _, _ =>
    show SeqAt.EqAt _ _ (.ref p) (.ref q) (decide (ns = ms))
    by_cases c : p = q
    · subst c
      rw [hp] at hq
      have e : ns = ms := by
        have e1 := HO.tup.inj (Option.some.inj hq)
        exact List.map_inj_right (fun x y h => V.int.inj h) |>.mp e1
      rw [decide_eq_true e]
      exact SeqAt.EqAt.same _
    · obtain ⟨_, j1, s1, g1⟩ := I.hok p _ hp
      obtain ⟨_, j2, s2, g2⟩ := I.hok q _ hq
      have e3 := SeqAt.RcAt.tuples (A := X.A.in1) (s := s) (show s.heap.IsTuple p j1.toArray from g1) (show s.heap.IsTuple q j2.toArray from g2) (by show X.A.units + 1 < cLine; exact hu) (ints_eqAt s1 s2)
      refine SeqAt.EqAt.of_refs c ?_
      have l1 := s1.length
      have l2 := s2.length
      rw [List.length_map] at l1 l2
      simp only [List.size_toArray] at e3
      rw [← l1, ← l2, all_same] at e3
      exact e3
def rNeR : R2 := fun x y H Q => ∃ (a b : Addr) (n m : Int) (ns ms : List Int), x = .ref a ∧ y = .ref b ∧ RgAt H a n ns ∧ RgAt H b m ms ∧ Q (.bl (!decide (n = m ∧ ns = ms))) H
theorem rg_all (n m : Int) (ns ms : List Int) : ((List.range (min 2 2)).all (fun j => if j = 0 then n == m else decide (ns = ms)) && (2 == 2)) = decide (n = m ∧ ns = ms) := by
  show ((n == m) && (decide (ns = ms) && true) && true) = _
  rw [Bool.and_true, Bool.and_true, Bool.eq_iff_iff, Bool.and_eq_true, beq_iff_eq, decide_eq_true_iff, decide_eq_true_iff]
theorem op_neR (hu : X.A.units + 1 < cLine) : OpR X (compareOp .NotEq) rNeR := by
  intro pins s σ H x y v u Q I rx ry h
  obtain ⟨a, b, n, m, ns, ms, rfl, rfl, ha, hb, q⟩ := h
  cases rx
  cases ry
  obtain ⟨i1, i2, p1, p2, l1, l2, e⟩ := rg_eqAt I hu ha hb
  refine of_rcne' (SeqAt.RcNeAt.tuples p1 p2 (by omega) e) ?_
  simp only [List.size_toArray]
  rw [l1, l2, rg_all]
  exact ⟨.bl _, H, I, rfl, q⟩
end
end L2
end
section
/-! A comprehension whose items change what is there: by an invariant. -/
namespace L2
open PySem PySem.Spec PyProof.Rows
set_option maxHeartbeats 4000000
set_option Elab.async false
set_option linter.unusedVariables false
end L2
end
section
/-! A list's method, called within a block. -/
namespace L2
open PySem PySem.Spec PyProof.Rows
set_option maxHeartbeats 4000000
set_option Elab.async false
set_option linter.unusedVariables false
section
variable {X : Cx} {o e : Expr} {es : List Expr} {to : TE} {t : TA} {name : Str} {apos cpos : Pos} {T id : String} {r : V → List V → Hp → VK → Prop}
end
end L2
end
section
/-! max of a list of ints. -/
namespace L2
open PySem PySem.Spec PyProof.Rows
set_option maxHeartbeats 4000000
set_option maxRecDepth 100000
set_option Elab.async false
set_option linter.unusedVariables false
section
variable {X : Cx}
end
end L2
end
section
/-! Lists of ints held side by side: unlike. -/
namespace L2
open PySem PySem.Spec PyProof.Rows
set_option maxHeartbeats 4000000
set_option maxRecDepth 100000
set_option Elab.async false
set_option linter.unusedVariables false
section
variable {X : Cx}
end
end L2
end
section
/-! sorted(l) of a list of pairs (tuple of ints, int) whose tuples are all unlike; sorted(d.items()). -/
namespace L2
open PySem PySem.Spec PySem.W PyProof.Rows
set_option maxHeartbeats 4000000
set_option maxRecDepth 100000
set_option Elab.async false
set_option linter.unusedVariables false
section
variable {X : Cx} {pins : List (Addr × Obj)} {σ : St} {H H' : Hp} {s : Shared} {h' : Heap}
end
/-! ### tuples of ints, in order -/
theorem lx_irr : ∀ x : List Int, HT.lexLt x x = false
  | [] => rfl
  | a :: x => by rw [HT.lexLt_cons, if_pos rfl]; exact lx_irr x
theorem lx_trans : ∀ {x y z : List Int}, HT.lexLt x y = true → HT.lexLt y z = true → HT.lexLt x z = true
  | [], [], _, h, _ => by cases h
  | [], _ :: _, [], _, h => by cases h
  | [], _ :: _, _ :: _, _, _ => rfl
  | _ :: _, [], _, h, _ => by cases h
  | _ :: _, _ :: _, [], _, h => by cases h
  | a :: x, b :: y, c :: z, h1, h2 => by
    rw [HT.lexLt_cons] at h1 h2 ⊢
    by_cases ab : a = b
    · rw [if_pos ab] at h1
      subst ab
      by_cases ac : a = c
      · rw [if_pos ac] at h2 ⊢
        exact lx_trans h1 h2
      · rw [if_neg ac] at h2 ⊢
        exact h2
    · rw [if_neg ab] at h1
      have h1 := of_decide_eq_true h1
      by_cases bc : b = c
      · subst bc
        rw [if_neg ab]
        exact decide_eq_true h1
      · rw [if_neg bc] at h2
        have h2 := of_decide_eq_true h2
        rw [if_neg (by omega)]
        exact decide_eq_true (by omega)
/-- at v stands the tuple (t, b) -/
def NestAt (h : Heap) (v : Value) (t : List Int) (b : Int) : Prop := ∃ (x : Addr) (o : Obj) (k : Nat) (p : Addr) (u : Tok) (its : List Value), v = .ref x ∧ h.get? x = some o ∧ o.cls = .type "tuple" ∧ o.data = .seq #[.ref p, .int b u] k ∧ IsTup h p its.toArray ∧ Vals (t.map V.int) its
theorem NestAt.old {h h' : Heap} {v : Value} {t : List Int} {b : Int} (n : NestAt h v t b) (k : ∀ (x : Addr) (o : Obj), h.get? x = some o → o.cls ≠ .type "list" → h'.get? x = some o) : NestAt h' v t b := by
  obtain ⟨x, o, m, p, u, its, e, hx, hc, hd, ⟨o2, h2, c2, d2⟩, hi⟩ := n
  exact ⟨x, o, m, p, u, its, e, k _ _ hx (by rw [hc]; simp), hc, hd, ⟨o2, k _ _ h2 (by rw [c2]; simp), c2, d2⟩, hi⟩
section
variable {prog : Program} {w : World} {A : Around} {E : Value → Shared → Prop} {s : Shared}
end
/-- pairs of a tuple of ints and an int -/
def Nsts (H : Hp) (xs : List V) (bl : List (List Int × Int)) : Prop := xs.length = bl.length ∧ ∀ (j : Nat) (b : List Int × Int), bl[j]? = some b → ∃ p q : Addr, xs[j]? = some (.ref p) ∧ H p = some (.tup [.ref q, .int b.2]) ∧ H q = some (.tup (b.1.map V.int))
theorem Nsts.same {H H' : Hp} {xs : List V} {bl : List (List Int × Int)} (n : Nsts H xs bl) (s : Same H H') : Nsts H' xs bl := ⟨n.1, fun j b e => let ⟨p, q, a, c, d⟩ := n.2 j b e; ⟨p, q, a, s _ _ c, s _ _ d⟩⟩
end L2
end
section
/-! Walking a dict, whatever its keys are. -/
namespace L2
open PySem PySem.Spec PySem.W PyProof.Rows
set_option maxHeartbeats 4000000
set_option maxRecDepth 100000
set_option Elab.async false
set_option linter.unusedVariables false
/-- an iterator over the keys of the dict at d -/
abbrev IsKI (h : Heap) (z d : Addr) (i n ep : Nat) : Prop := h.get? z = some { cls := .type "dict_keyiterator", dict := none, data := .fields #[.ref d, .int (i : Int) 0, .int (n : Int) 0, .int (ep : Int) 0], slots := #[] }
/-- the dict at d and its entries, as they lie -/
def RawD (h : Heap) (d : Addr) (es : Array DictEntry) (ep : Nat) : Prop := ∃ o, h.get? d = some o ∧ o.cls = .type "dict" ∧ o.data = .dict es ep
section
variable {prog : Program} {w : World} {A : Around} {E : Value → Shared → Prop} {s : Shared}
theorem ki_item {z d : Addr} {i ep : Nat} {es : Array DictEntry} {Q : Option Value → Shared → Prop} (hit : IsKI s.heap z d i es.size ep) (hd : RawD s.heap d es ep) (hi : i < es.size)
    (q : ∀ h', IsKI h' z d (i + 1) es.size ep → Heap.SameBut z s.heap h' → Q (some es[i].key) { s with heap := h' }) : wpAny (model prog w) A (pyNext (.ref z)) Q E s := by
  obtain ⟨hp, g, dr, tk, os⟩ := s
  obtain ⟨⟨c, dd, da, sl⟩, ho, hc, hda⟩ := hd
  simp only at hc hda ho
  subst hc hda
  have hT : Shared.TypeIs ⟨hp, g, dr, tk, os⟩ (.ref z) "dict_keyiterator" := ⟨_, hit, rfl⟩
  unfold pyNext
  refine wpAny_bind (wpAny_attempt (wpAny_callSpecial?_slot (name := Str.ofString "__next__") hT F.slot_dict_keyiterator_next (wpAny_call_entry F.slot_dict_keyiterator_next hT F.entry_dict_keyiterator_next ?_ (F.args_dict_keyiterator_next_1 _))))
  have e1 : ¬ ((i : Int) < 0) := by omega
  have e2 : es[(i : Int).toNat]? = some es[i] := by rw [Int.toNat_natCast]; exact Array.getElem?_eq_getElem hi
  unfold Builtin.«dict_keyiterator.__next__»
  wp_walk
  rw [if_neg e1, e2]
  dsimp only
  wp_walk
  refine ⟨_, rfl, wpAny_pure (q _ ?_ (Heap.SameBut.update ..))⟩
  refine (Heap.get?_update_self _ hit rfl).trans ?_
  kernel_rfl
theorem ki_end {z d : Addr} {i ep : Nat} {es : Array DictEntry} {Q : Option Value → Shared → Prop} (hh : A.handled = none) (hit : IsKI s.heap z d i es.size ep) (hd : RawD s.heap d es ep) (hi : es.size ≤ i)
    (q : ∀ h' tk, Heap.ExtBut z s.heap h' → Q none { s with heap := h', toks := tk }) : wpAny (model prog w) A (pyNext (.ref z)) Q E s := by
  obtain ⟨hp, g, dr, tk, os⟩ := s
  obtain ⟨⟨c, dd, da, sl⟩, ho, hc, hda⟩ := hd
  simp only at hc hda ho
  subst hc hda
  have hT : Shared.TypeIs ⟨hp, g, dr, tk, os⟩ (.ref z) "dict_keyiterator" := ⟨_, hit, rfl⟩
  unfold pyNext
  refine wpAny_bind (wpAny_attempt (wpAny_callSpecial?_slot (name := Str.ofString "__next__") hT F.slot_dict_keyiterator_next (wpAny_call_entry F.slot_dict_keyiterator_next hT F.entry_dict_keyiterator_next ?_ (F.args_dict_keyiterator_next_1 _))))
  have e1 : ¬ ((i : Int) < 0) := by omega
  have e2 : es[(i : Int).toNat]? = none := by rw [Int.toNat_natCast]; exact Array.getElem?_eq_none hi
  unfold Builtin.«dict_keyiterator.__next__»
  wp_walk
  rw [if_neg e1, e2]
  dsimp only
  wp_walk
  simp only [raiseNew]
  refine wpAny_bind (wpAny_handled ?_)
  rw [show A.in1.handled = none from hh]
  refine wpAny_bind (wpAny_pure (wpAny_throw ?_))
  refine wpAny_bind (wpAny_isInstance (T := "StopIteration") (b := true) ⟨_, Heap.get?_push_size _ rfl, rfl⟩ isSubtype_stop ?_)
  exact wpAny_pure (q _ _ (((Heap.SameBut.update ..).extBut.push _).push _))
theorem ki_iter {d : Addr} {ep : Nat} {es : Array DictEntry} {Q : Value → Shared → Prop} (ns : (d == sysModules) = false) (hd : RawD s.heap d es ep)
    (q : ∀ h', IsKI h' s.heap.objs.size d 0 es.size ep → (∀ b o, s.heap.get? b = some o → h'.get? b = some o) → Q (.ref s.heap.objs.size) { s with heap := h' }) : wpAny (model prog w) A (pyIter (.ref d)) Q E s := by
  obtain ⟨hp, g, dr, tk, os⟩ := s
  obtain ⟨⟨c, dd, da, sl⟩, ho, hc, hda⟩ := hd
  simp only at hc hda ho
  subst hc hda
  have hT : Shared.TypeIs ⟨hp, g, dr, tk, os⟩ (.ref d) "dict" := ⟨_, ho, rfl⟩
  refine wpAny_pyIter_slot hT F.slot_dict_iter (wpAny_call_entry F.slot_dict_iter hT F.entry_dict_iter ?_ (F.args_dict_iter_1 _))
  unfold Builtin.«dict.__iter__»
  wp_walk
  exact ⟨_, rfl, "dict_keyiterator", _, ⟨_, Heap.get?_push_size _ rfl, rfl⟩, F.slot_dict_keyiterator_next.lookup, q _ (Heap.get?_push_size _ rfl) fun b o e => Heap.get?_push_of_some _ e⟩
end
end L2
end
section
/-! for k in d: a dict with tuples for keys, held fixed. -/
namespace L2
open PySem PySem.Spec PySem.W PyProof.Rows
set_option maxHeartbeats 4000000
set_option maxRecDepth 100000
set_option Elab.async false
set_option linter.unusedVariables false
theorem paired_get {α β : Type} {r : α → β → Prop} : ∀ {xs : List α} {ys : List β} {i : Nat} {x : α}, Paired r xs ys → xs[i]? = some x → ∃ y, ys[i]? = some y ∧ r x y
  | _, _, _, _, .nil, e => by simp at e
  | _, _, 0, _, .cons r _, e => by simp at e; subst e; exact ⟨_, rfl, r⟩
  | _, _, i + 1, p, .cons _ t, e => paired_get (i := i) (x := p) t (by simpa using e)
section
variable {X : Cx} {tg : Expr}
end
end L2
end
section
/-! d.items() of a dict, whatever its keys are, put in a list. -/
namespace L2
open PySem PySem.Spec PySem.W PyProof.Rows
set_option maxHeartbeats 4000000
set_option maxRecDepth 100000
set_option Elab.async false
set_option linter.unusedVariables false
section
variable {prog : Program} {w : World} {A : Around} {E : Value → Shared → Prop} {s : Shared}
end
end L2
end
section
/-! d.items() of a dict, whatever its keys are, put in a list. -/
namespace L2
open PySem PySem.Spec PySem.W PyProof.Rows
set_option maxHeartbeats 4000000
set_option maxRecDepth 100000
set_option Elab.async false
set_option linter.unusedVariables false
section
variable {prog : Program} {w : World} {A : Around} {E : Value → Shared → Prop} {s : Shared}
end
end L2
end
section
/-! d.items() of a dict, whatever its keys are, put in a list. -/
namespace L2
open PySem PySem.Spec PySem.W PyProof.Rows
set_option maxHeartbeats 4000000
set_option maxRecDepth 100000
set_option Elab.async false
set_option linter.unusedVariables false
section
variable {prog : Program} {w : World} {A : Around} {E : Value → Shared → Prop} {s : Shared}
end
end L2
end
section
/-! All the items of a dict, as a list. -/
namespace L2
open PySem PySem.Spec PySem.W PyProof.Rows
set_option maxHeartbeats 4000000
set_option maxRecDepth 100000
set_option Elab.async false
set_option linter.unusedVariables false
section
variable {prog : Program} {w : World} {A : Around} {E : Value → Shared → Prop} {s : Shared}
/-- a list is filled from an iterator that may lay new objects: T, what holds ahead of the ith item, F, what holds at the end -/
theorem fed_loop {S I : Addr} {n : Nat} {T : Nat → Heap → List Value → Prop} {Fn : Heap → List Value → Prop} {res : Value} {R : Result → Shared → Prop} {h0 : Heap} (hSI : S ≠ I) (hn : n ≤ sizeLine)
    (keep : ∀ i h h' vs, T i h vs → (∀ b o, b ≠ S → h.get? b = some o → h'.get? b = some o) → T i h' vs)
    (item : ∀ i h tk vs (Q : Option Value → Shared → Prop) (E : Value → Shared → Prop), i < n → S < h.objs.size → T i h vs → (∀ v h', T (i + 1) h' (vs ++ [v]) → (∀ b o, b ≠ I → h.get? b = some o → h'.get? b = some o) → Q (some v) { s with heap := h', toks := tk }) →
      wpAny (model prog w) A.in1 (pyNext (.ref I)) Q E { s with heap := h, toks := tk })
    (done : ∀ h tk vs (Q : Option Value → Shared → Prop) (E : Value → Shared → Prop), T n h vs → (∀ h' tk', Fn h' vs → (∀ b o, b ≠ I → h.get? b = some o → h'.get? b = some o) → Q none { s with heap := h', toks := tk' }) →
      wpAny (model prog w) A.in1 (pyNext (.ref I)) Q E { s with heap := h, toks := tk })
    (hR : ∀ h' tk (acc : Array Value) c, Fn h' acc.toList → (∀ b o, b ≠ S → b ≠ I → h0.get? b = some o → h'.get? b = some o) → h'.get? S = some { cls := .type "list", dict := none, data := .seq acc c, slots := #[] } → R (.ok (.ret res)) { s with heap := h', toks := tk }) :
    ∀ (k i : Nat) (h : Heap) (tk c : Nat) (acc : Array Value), i + k = n → T i h acc.toList → acc.size = i → (∀ b o, b ≠ S → b ≠ I → h0.get? b = some o → h.get? b = some o) →
      h.get? S = some { cls := .type "list", dict := none, data := .seq acc c, slots := #[] } → codeAny (model prog w) A (.builtin "list.extend.loop" ⟨[.ref S, .ref I, res], []⟩) R { s with heap := h, toks := tk }
  | 0, i, h, tk, c, acc, hk, t, sz, old, hS => by
    refine codeAny_builtin PySem.F.entry_extend_loop ?_
    rw [Around.under_plainId PySem.F.plain_extend_loop _]
    have hi : i = n := by omega
    subst hi
    refine wpAny_bind (m := pyNext (.ref I)) (done h tk _ _ _ t fun h' tk' f kp => wpAny_pure (hR h' tk' acc c f (fun b o b1 b2 e => kp b o b2 (old b o b1 b2 e)) (kp _ _ hSI hS)))
  | k + 1, i, h, tk, c, acc, hk, t, sz, old, hS => by
    refine codeAny_builtin PySem.F.entry_extend_loop ?_
    rw [Around.under_plainId PySem.F.plain_extend_loop _]
    refine wpAny_bind (m := pyNext (.ref I)) (item i h tk _ _ _ (by omega) (Heap.lt_size hS) t fun v h' t' kp => ?_)
    have hS' := kp _ _ hSI hS
    have oth : ∀ b o, b ≠ S → h'.get? b = some o → (h'.update S (Obj.mapSeq (·.push v))).get? b = some o := fun b o nb e => (Heap.get?_update_other _ _ (Ne.symm nb)).trans e
    have rest := fed_loop hSI hn keep item done hR k (i + 1) (h'.update S (Obj.mapSeq (·.push v))) tk _ (acc.push v) (by omega) (by rw [Array.toList_push]; exact keep _ _ _ _ t' oth) (by rw [Array.size_push, sz])
      (fun b o b1 b2 e => oth b o b1 (kp b o b2 (old b o b1 b2 e))) (Heap.get?_update_self _ hS' rfl)
    refine wpAny_bind (m := updateSeq S (·.push v)) (wpAny_updateSeq hS' rfl (wpAny_pure ⟨plainId_quiet PySem.F.plain_extend_loop _, rest⟩) ?_ ?_)
    · omega
    · show (acc.push v).size ≤ sizeLine + 1
      rw [Array.size_push]
      omega
/-- the first i items, as they lie -/
structure Its5 (h : Heap) (lo : Addr) (es : Array DictEntry) (vs : List Value) : Prop where
  len : vs.length ≤ es.size
  at_ : ∀ (j : Nat) (v : Value), vs[j]? = some v → ∃ (hj : j < es.size) (a : Addr), v = .ref a ∧ lo < a ∧ h.get? a = some { cls := .type "tuple", data := .seq #[es[j].key, es[j].val] }
  up : ∀ (i j : Nat) (a b : Addr), i < j → vs[i]? = some (.ref a) → vs[j]? = some (.ref b) → a < b
theorem Its5.keep {h h' : Heap} {lo : Addr} {es : Array DictEntry} {vs : List Value} (t : Its5 h lo es vs) (k : ∀ b o, lo < b → h.get? b = some o → h'.get? b = some o) : Its5 h' lo es vs :=
  ⟨t.len, fun j v e => let ⟨hj, a, x, y, z⟩ := t.at_ j v e; ⟨hj, a, x, y, k _ _ y z⟩, t.up⟩
theorem Its5.snoc {h : Heap} {lo n : Addr} {es : Array DictEntry} {vs : List Value} (t : Its5 h lo es vs) (hi : vs.length < es.size) (ln : lo < n) (un : ∀ (j : Nat) (a : Addr), vs[j]? = some (.ref a) → a < n)
    (hn : h.get? n = some { cls := .type "tuple", data := .seq #[es[vs.length].key, es[vs.length].val] }) : Its5 h lo es (vs ++ [.ref n]) := by
  refine ⟨by rw [List.length_append, List.length_singleton]; omega, fun j v e => ?_, fun i j a b ij ea eb => ?_⟩
  · rcases Nat.lt_trichotomy j vs.length with c | c | c
    · rw [List.getElem?_append_left c] at e
      exact t.at_ j v e
    · subst c
      rw [List.getElem?_append_right (Nat.le_refl _), Nat.sub_self] at e
      cases e
      exact ⟨hi, n, rfl, ln, hn⟩
    · rw [List.getElem?_eq_none (by rw [List.length_append, List.length_singleton]; omega)] at e
      cases e
  · have jl : j < (vs ++ [Value.ref n]).length := (List.getElem?_eq_some_iff.mp eb).1
    rw [List.length_append, List.length_singleton] at jl
    rw [List.getElem?_append_left (by omega)] at ea
    by_cases c : j < vs.length
    · rw [List.getElem?_append_left c] at eb
      exact t.up i j a b ij ea eb
    · have cj : j = vs.length := by omega
      subst cj
      rw [List.getElem?_append_right (Nat.le_refl _), Nat.sub_self] at eb
      cases eb
      exact un i a ea
end
end L2
end
section
/-! sorted(d.items()) of a dict with tuples of ints for keys. -/
namespace L2
open PySem PySem.Spec PySem.W PyProof.Rows
set_option maxHeartbeats 4000000
set_option maxRecDepth 100000
set_option Elab.async false
set_option linter.unusedVariables false
section
variable {P : Program} {w : World} {A : Around} {E : Value → Shared → Prop} {s : Shared}
end
end L2
end
section
/-! sorted(d.items()): the pairs, in order. -/
namespace L2
open PySem PySem.Spec PySem.W PyProof.Rows
set_option maxHeartbeats 4000000
set_option maxRecDepth 100000
set_option Elab.async false
set_option linter.unusedVariables false
def kvT (q : List Int × Int) : List Key × V := (q.1.map Sum.inl, .int q.2)
end L2
end
section
/-! for k in d: where each key lies is known ahead. -/
namespace L2
open PySem PySem.Spec PySem.W PyProof.Rows
set_option maxHeartbeats 4000000
set_option maxRecDepth 100000
set_option Elab.async false
set_option linter.unusedVariables false
section
variable {X : Cx} {tg : Expr}
end
end L2
end
section
/-! Lists of tuples of tuples held side by side: they are not unlike. -/
namespace L2
open PySem PySem.Spec PyProof.Rows
set_option maxHeartbeats 4000000
set_option maxRecDepth 100000
set_option Elab.async false
set_option linter.unusedVariables false
section
variable {X : Cx}
def rNeD (K : PySem.W.Frag) (n : Nat) : R2 := fun x y H Q => ∃ (a b : Addr) (xs ys : List V), x = .ref a ∧ y = .ref b ∧ SqL K H a xs ∧ SqL K H b ys ∧ xs.length = ys.length ∧ (∀ (j : Nat) (u v : V), xs[j]? = some u → ys[j]? = some v → De H n u v) ∧ Q (.bl false) H
theorem op_neD {n : Nat} (hu : X.A.units + 1 + n < cLine) : OpR X (compareOp .NotEq) (rNeD X.K n) := by
  intro pins s σ H x y v u Q I rx ry h
  obtain ⟨a, b, xs, ys, rfl, rfl, ha, hb, hl, hd, q⟩ := h
  cases rx
  cases ry
  obtain ⟨its, r1, p1, _⟩ := I.list ha
  obtain ⟨its2, r2, p2, _⟩ := I.list hb
  have l1 := r1.length
  have l2 := r2.length
  refine of_rcne' (SeqAt.RcNeAt.lists (e := fun _ => true) p1.isList p2.isList (by simp only [List.size_toArray]; omega) (by omega) (fun j h1 h2 => ?_)) ?_
  · simp only [List.size_toArray] at h1 h2
    have g1 := List.getElem?_eq_getElem (show j < xs.length by omega)
    have g2 := List.getElem?_eq_getElem (show j < ys.length by omega)
    obtain ⟨w1, f1, q1⟩ := r1.get g1
    obtain ⟨w2, f2, q2⟩ := r2.get g2
    have a1 : its.toArray[j]'(by simpa using h1) = w1 := by
      have := (List.getElem?_eq_some_iff.mp f1).2
      simpa using this
    have a2 : its2.toArray[j]'(by simpa using h2) = w2 := by
      have := (List.getElem?_eq_some_iff.mp f2).2
      simpa using this
    rw [a1, a2]
    exact de_eqAt I n (A := X.A.in1) (by show X.A.units + 1 + n < cLine; exact hu) (hd j _ _ g1 g2) q1 q2
  · rw [show (List.range its.toArray.size).all (fun _ => true) = true from List.all_eq_true.mpr fun _ _ => rfl]
    exact ⟨.bl false, H, I, rfl, q⟩
end
end L2
end
section
/-! A comprehension of two clauses that makes new tuples. -/
namespace L2
open PySem PySem.Spec PyProof.Rows
set_option maxHeartbeats 4000000
set_option Elab.async false
set_option linter.unusedVariables false
/-- a list of tuples -/
def TL (H : Hp) (D : Addr) (fs : List (List V)) : Prop := ∃ ys, H D = some (.lst ys) ∧ ys.length = fs.length ∧ ∀ (j : Nat) (y : V), ys[j]? = some y → ∃ p, y = .ref p ∧ H p = some (.tup (fs.getD j []))
theorem TL.same {H H' : Hp} {D : Addr} {fs : List (List V)} (h : TL H D fs) (s : Same H H') : TL H' D fs := by
  obtain ⟨ys, hd, hl, hy⟩ := h
  exact ⟨ys, s _ _ hd, hl, fun j y e => by obtain ⟨p, e1, e2⟩ := hy j y e; exact ⟨p, e1, s _ _ e2⟩⟩
theorem TL.nil {H : Hp} {D : Addr} (h : H D = some (.lst [])) : TL H D [] := ⟨[], h, rfl, fun j y e => by cases e⟩
theorem TL.push {H : Hp} {D : Addr} {fs : List (List V)} {ys : List V} {p : Addr} {x : List V} (hd : H D = some (.lst ys)) (hl : ys.length = fs.length) (hy : ∀ (j : Nat) (y : V), ys[j]? = some y → ∃ p, y = .ref p ∧ H p = some (.tup (fs.getD j []))) (hp : H p = some (.tup x)) : TL (upd H D (.lst (ys ++ [.ref p]))) D (fs ++ [x]) := by
  refine ⟨_, upd_same, by simp [hl], fun j u hu => ?_⟩
  by_cases c : j < ys.length
  · rw [List.getElem?_append_left c] at hu
    obtain ⟨p', e1, e2⟩ := hy j u hu
    refine ⟨p', e1, ?_⟩
    rw [upd_ne (ne_of e2 hd (by intro z; cases z)), e2, List.getD_eq_getElem?_getD, List.getD_eq_getElem?_getD, List.getElem?_append_left (by omega)]
  · have ej : j = ys.length := by
      have := (List.getElem?_eq_some_iff.mp hu).1
      rw [List.length_append, List.length_singleton] at this
      omega
    subst ej
    rw [List.getElem?_append_right (by omega), Nat.sub_self] at hu
    have eu : u = .ref p := by simpa using hu.symm
    refine ⟨p, eu, ?_⟩
    rw [upd_ne (ne_of hp hd (by intro z; cases z)), hp, List.getD_eq_getElem?_getD, List.getElem?_append_right (by omega), hl, Nat.sub_self]
    rfl
theorem deep_tups {J : It} {g : TG} {te : TE} {N : St → Hp → Prop} {D : Addr} {H1 : Hp} {σ0 : St} (n : Nat) (f : Nat → List V) (pre : List (List V)) (Sg : St → Prop) (itm : Nat → Hp → V → Prop) (hd : TL H1 D pre) (hn : pre.length + n ≤ sizeLine) (s0 : Sg σ0)
    (items : ∀ i H, But D H1 H → (i < n → J.go i H ∧ ∀ x H2, J.yld i H x H2 → Same H H2 ∧ itm i H2 x) ∧ (n ≤ i → J.stop i H))
    (step : ∀ i x σ' H, i < n → But D H1 H → itm i H x → Sg σ' → ∀ R : St → V → Hp → Prop, (∀ σ3 p H5, Sg σ3 → Same H H5 → H5 p = some (.tup (f i)) → R σ3 (.ref p) H5) → g x σ' H fun σ3 H3 => te σ3 H3 (R σ3))
    (fin : ∀ σ' H', Sg σ' → But D H1 H' → TL H' D (pre ++ (List.range n).map f) → N σ' H') : cmpD J g te N D σ0 H1 := by
  refine ⟨fun i m σ H => m = n - i ∧ i ≤ n ∧ Sg σ ∧ But D H1 H ∧ TL H D (pre ++ (List.range i).map f), ⟨n, by omega, Nat.zero_le _, s0, But.refl _ _, by simpa using hd⟩, ?_⟩
  rintro i m σ H ⟨rfl, hi, hs, sm, hd'⟩
  by_cases hlt : i < n
  · obtain ⟨go, yl⟩ := (items i H sm).1 hlt
    refine .inr ⟨go, fun x H2 y => ?_⟩
    obtain ⟨s2, im⟩ := yl x H2 y
    refine step i x σ H2 hlt (sm.trans (But.of s2)) im hs _ fun σ3 p H5 g3 s5 ep => ?_
    obtain ⟨ys, e1, e2, e3⟩ := hd'.same (s2.trans s5)
    refine ⟨ys, e1, by rw [e2, List.length_append, List.length_map, List.length_range]; omega, n - (i + 1), by omega, rfl, by omega, g3, ((sm.trans (But.of s2)).trans (But.of s5)).trans (But.upd _), ?_⟩
    have := TL.push e1 e2 e3 ep
    rw [List.append_assoc] at this
    rw [List.range_succ, List.map_append]
    exact this
  · have e : i = n := by omega
    subst e
    exact .inl ⟨(items i H sm).2 (Nat.le_refl _), fin σ H hs sm hd'⟩
theorem out_tups {J : It} {g g' : TG} {wi : TI} {te : TE} {Q : VK} {D : Addr} {H1 : Hp} {σ0 : St} (n : Nat) (f : Nat → List (List V)) (Sg : St → Prop) (itm : Nat → Hp → V → Prop) (hn : ∀ i, i ≤ n → ((List.range i).flatMap f).length ≤ sizeLine) (hD : H1 D = none) (s0 : Sg σ0)
    (items : ∀ i H, Same H1 H → (i < n → J.go i H ∧ ∀ x H2, J.yld i H x H2 → Same H H2 ∧ itm i H2 x) ∧ (n ≤ i → J.stop i H))
    (step : ∀ i x σ' H pre, i < n → Same H1 H → itm i H x → Sg σ' → TL H D pre → pre.length + (f i).length ≤ sizeLine → ∀ N : St → Hp → Prop, (∀ σ3 H5, Sg σ3 → But D H H5 → TL H5 D (pre ++ f i) → N σ3 H5) → g x σ' H fun σ3 H3 => wi σ3 H3 fun J' H4 => cmpD J' g' te N D σ3 H4)
    (fin : ∀ H', Same H1 H' → TL H' D ((List.range n).flatMap f) → Q (.ref D) H') : cmpO J g wi g' te Q D σ0 H1 := by
  refine ⟨fun i m σ H => m = n - i ∧ i ≤ n ∧ Sg σ ∧ Same H1 H ∧ TL H D ((List.range i).flatMap f), ⟨n, by omega, Nat.zero_le _, s0, (Same.refl H1).upd_free hD _, TL.nil upd_same⟩, ?_⟩
  rintro i m σ H ⟨rfl, hi, hs, sm, hd⟩
  by_cases hlt : i < n
  · obtain ⟨go, yl⟩ := (items i H sm).1 hlt
    refine .inr ⟨go, fun x H2 y => ?_⟩
    obtain ⟨s2, im⟩ := yl x H2 y
    have l := hn (i + 1) hlt
    rw [List.range_succ, List.flatMap_append, List.length_append, List.flatMap_singleton] at l
    refine step i x σ H2 _ hlt (sm.trans s2) im hs (hd.same s2) l _ fun σ3 H5 g3 b5 h5 => ?_
    refine ⟨n - (i + 1), by omega, rfl, by omega, g3, fun b o e => ?_, by rw [List.range_succ, List.flatMap_append, List.flatMap_singleton]; exact h5⟩
    exact b5 _ _ (ne_of_none e hD) (s2 _ _ (sm _ _ e))
  · have e : i = n := by omega
    subst e
    exact .inl ⟨(items i H sm).2 (Nat.le_refl _), fin H sm hd⟩
end L2
end
section
/-! name = [comprehension of two clauses]. -/
namespace L2
open PySem PySem.Spec PyProof.Rows
set_option maxHeartbeats 4000000
set_option Elab.async false
set_option linter.unusedVariables false
theorem ps_compO {X : Cx} {elt tg iter tg' iter' : Expr} {scope : Scope} {pos pos' spos : Pos} {N : List Str} {nt : Nat} {js : List Nat} {sc : Scope} {N0 : List Str} {wi wi' : TI} {g g' : TG} {te : TE} {ii : Nat} {nm : Str}
    (hNd : X.N.Nodup) (hii : X.N[ii]? = some nm) (hloc : Loc X.env.scope nm)
    (hc : X.calm = true) (hsc : X.env.scope = sc) (hN : X.N = N0) (B : Blk sc N0 N nt js scope) (hi : PI X tg iter wi)
    (hg : ∀ cl C s H fp, PG (blk X N scope cl C s H fp) tg g) (hi' : ∀ cl C s H fp, PI (blk X N scope cl C s H fp) tg' iter' wi') (hg' : ∀ cl C s H fp, PG (blk X N scope cl C s H fp) tg' g') (he : ∀ cl C s H fp, PE (blk X N scope cl C s H fp) elt te)
    (hsw : swapsWith (.ListComp elt [⟨tg, iter, [], 0⟩, ⟨tg', iter', [], 0⟩] scope pos) (some (.Name nm pos')) spos.line X.env = pure true := by rfl)
    (hf : X.fn nm = true ∨ X.env.scope.names.lookup nm = some .local := by first | exact .inl rfl | exact .inr rfl | assumption)
    (hs : ∀ x, foldedSetIterable iter X.env x = pure x := by intro _; rfl) (hs' : ∀ env x, foldedSetIterable iter' env x = pure x := by intro _ _; rfl) : PS X (.Assign [.Name nm pos'] (.ListComp elt [⟨tg, iter, [], 0⟩, ⟨tg', iter', [], 0⟩] scope pos) spos) (tSetC ii (tComp2 nt js wi g wi' g' te)) := by
  subst hsc hN
  intro pins s σ H D I h
  obtain ⟨cl, hcl, c1, c2⟩ := clos_of (env := X.env) (scope := scope) fun y hy hk => I.ok.has y.1 (B.cap y hy hk)
  rw [PySem.exec_Assign_Name_used _ _ _ _ hsw]
  refine wpAny_bind (wpAny_standAt (wpAny_bind ?_))
  show wpAny _ _ (comprehension _ scope X.env _ _ _ _ (some (assign (.Name nm pos') X.env)) >>= _) _ _ _
  refine wpAny_bind (thn (Q := fun _ s' => ∃ σ' H', Inv X pins σ' H' s' ∧ D.nx σ' H') ?_ fun _ s9 q9 => wpAny_pure (wpAny_pure q9))
  refine wpAny_comprehension_free (use := some (assign (.Name nm pos') X.env)) rfl hs hcl B.kind B.loc (thn (hi pins s σ H _ I h) fun v s1 q1 => thn q1 fun itv s2 q2 => ?_)
  obtain ⟨it, fp, tn, J, H2, e, I2, T, st2, f2, q2⟩ := q2
  subst e
  obtain ⟨W, ⟨m0, w0⟩, turn⟩ := q2 s2.heap.objs.size (I2.hok.fresh (Nat.le_refl _))
  have hlt : ∀ b ∈ fp, b < s2.heap.objs.size := fun b hb => by
    obtain ⟨o, eo, _⟩ := T.obj _ _ st2 b hb
    exact Heap.lt_size eo
  refine wpAny_newObj_type (wpAny_newFunctionEnv B.nocell (by intro y hy; simp at hy) (fun h1 hns hsb => ?_) B.kind)
  dsimp only at hns hsb ⊢
  have hsz : (s2.heap.push { cls := .type "list", dict := none, data := .seq ([] : List Value).toArray }).objs.size = s2.heap.objs.size + 1 := by rw [Heap.size_push]
  have old : ∀ b o, s2.heap.get? b = some o → h1.get? b = some o := fun b o eb => hsb.extBut b o (by rw [hsz]; exact Nat.ne_of_lt (Nat.lt_succ_of_lt (Heap.lt_size eb))) (Heap.get?_push_of_some _ (Heap.get?_push_of_some _ eb))
  have hD : h1.get? s2.heap.objs.size = some { cls := .type "list", data := .seq ([] : List Value).toArray 0 } := hsb.extBut _ _ (by rw [hsz]; exact Nat.ne_of_lt (Nat.lt_succ_self _)) (Heap.get?_push_of_some _ (Heap.get?_push_size _ rfl))
  rw [hsz] at hns
  have I3 := blk_start (cl := cl) (fp := fp) (tk := s2.toks + ([] : List (Str × Value)).length) I2 B c1 c2 f2 hlt old (show h1.Ns (s2.heap.objs.size + 1) fun _ => none from hns) hD
  have stat : ∀ {H' : Hp}, (∀ b ∈ fp, H' b = none) → ∀ b ∈ fp, FpOk (blk X N scope cl (s2.heap.objs.size + 1) s2 H2 fp) [] H' b := fun {H'} hn b hb =>
    ⟨hn b hb, Nat.ne_of_lt (Nat.lt_succ_of_lt (hlt b hb)), fun z => (List.mem_cons.mp (I2.stkSub b z)).elim (f2 b hb).2.1 (f2 b hb).2.2.1, .inl hb, fun x c ec => (f2 b hb).2.2.2.2.1 x c (c1 x c ec), fun p hp => absurd (show p ∈ ([] : List (Addr × Obj)) from hp) (by simp)⟩
  have fin : ∀ {i : Nat} {σ' : St} {H' : Hp} {s' : Shared}, Inv (blk X N scope cl (s2.heap.objs.size + 1) s2 H2 fp) [] σ' H' s' → D.nx (σ.set ii (some (.ref s2.heap.objs.size))) H' →
      compPost (model X.prog X.w) X.A X.xe (some (assign (.Name nm pos') X.env)) (fun _ s' => ∃ σ' H', Inv X pins σ' H' s' ∧ D.nx σ' H') (.ref s2.heap.objs.size) (s2.heap.objs.size + 1) (.ok .next) s' := fun {i σ' H' s'} Ib q => by
    obtain ⟨m, hn, _⟩ := id Ib.loc
    have I4 : Inv X pins σ H' s' := I2.call' Ib.os Ib.base Ib.hok Ib.bare fun b hb => ⟨(f2 b hb).2.2.2.1, (f2 b hb).2.1, (f2 b hb).2.2.2.2.1, (f2 b hb).2.2.2.2.2⟩
    obtain ⟨g0, g1, g2, g3, g4, g5⟩ := I2.fpOk (H' := H') (Nat.le_succ _) Ib.free
    show wpAny _ _ (assign (.Name nm pos') X.env (.ref s2.heap.objs.size)) _ _ _
    refine wpAny_bind (wpAny_standAt (wpAny_bindName (store_ok2 I4 hNd hii hloc (v := .ref s2.heap.objs.size) rfl (fun s5 I5 ⟨a, sb, ha⟩ => ?_) hf)))
    have na : s2.heap.objs.size + 1 ≠ a := by
      rcases ha with rfl | ha
      · exact g1
      · exact fun z => g4 _ _ ha z.symm
    refine ⟨m, hn.sameBut sb na, fun h'' hs'' => ?_⟩
    exact ⟨_, H', I5.turned (t' := s5.toks) (fun b o hb eb => hs''.extBut b o hb eb) g0 g1 g3 g4 g5, q⟩
  have loop : codeAny (model X.prog X.w) X.A (.compLoop (.ListComp elt [⟨tg, iter, [], 0⟩, ⟨tg', iter', [], 0⟩] scope pos) 0 (.ref it) (.ref s2.heap.objs.size) (compEnvC scope cl (s2.heap.objs.size + 1) X.env))
      (compPost (model X.prog X.w) X.A X.xe (some (assign (.Name nm pos') X.env)) (fun _ s' => ∃ σ' H', Inv X pins σ' H' s' ∧ D.nx σ' H') (.ref s2.heap.objs.size) (s2.heap.objs.size + 1)) { s2 with heap := h1, toks := s2.toks + ([] : List (Str × Value)).length } := by
    refine out_turns (hs' _) (fun n s' => ∃ i σ' H', Inv (blk X N scope cl (s2.heap.objs.size + 1) s2 H2 fp) [] σ' H' s' ∧ tn i s'.heap ∧ (∀ b ∈ fp, H' b = none) ∧ W i n σ' H') ?_ m0
      ⟨0, _, _, I3, T.keep _ _ _ st2 fun b _ o eb => old b o eb, fun b hb => ?_, w0⟩
    · rintro n s3 ⟨i, σ3, H3, J3, st3, fr3, w3⟩
      rcases turn i n σ3 H3 w3 with ⟨stop, qn⟩ | ⟨go, step⟩
      · refine thn (T.done (blk X N scope cl (s2.heap.objs.size + 1) s2 H2 fp) rfl rfl rfl hc i [] s3 σ3 H3 _ J3 (stat fr3) st3 stop) fun r s4 ⟨hr, I4⟩ => ?_
        subst hr
        exact fin (i := i) I4 qn
      · refine thn (T.item (blk X N scope cl (s2.heap.objs.size + 1) s2 H2 fp) rfl rfl rfl hc i [] s3 σ3 H3 _ J3 (stat fr3) st3 go) fun r s4 ⟨u, hr, h4⟩ => ?_
        subst hr
        refine thn h4 fun _ s5 ⟨x, H5, I5, r5, y5, st5, fr5⟩ => ?_
        have I5' := I5.pinned (stat fr5) (T.obj _ _ st5)
        refine thn (hg _ _ _ _ _ _ s5 σ3 H5 x u _ I5' r5 (step x H5 y5)) fun _ s6 ⟨σ6, H6, I6, q6⟩ => ?_
        refine thn (deep_code (Y := blk X N scope cl (s2.heap.objs.size + 1) s2 H2 fp) (g0 := ⟨tg, iter, [], 0⟩) (scope := scope) (pos := pos) hc (hi' _ _ _ _ _) (hg' _ _ _ _ _) (he _ _ _ _ _) rfl I6 q6) fun x4 s7 q7 => thn q7 fun i4 s8 q8 => codeAny_mono q8 fun r s9 ⟨hr, σ9, H9, I9, k, hk, w9⟩ => ⟨hr, k, hk, i + 1, σ9, H9, I9.unpinned, T.keep _ _ _ st5 fun b hb o eb => (I9.pin (b, o) (List.mem_append_right _ (List.mem_append_right _ (mem_pinsAt hb eb)))).1, fun b hb => ?_, w9⟩
        obtain ⟨o, eb, _⟩ := T.obj _ _ st5 b hb
        exact (I9.pin (b, o) (List.mem_append_right _ (List.mem_append_right _ (mem_pinsAt hb eb)))).2.1
    · show upd H2 _ _ b = none
      rw [upd_ne (Nat.ne_of_lt (hlt b hb))]
      exact (f2 b hb).1
  rw [hsz]
  exact codeAny_compStart_list loop (T.self _ 0 _ _ _ (T.keep _ _ _ st2 fun b _ o eb => old b o eb) loop)
theorem pt_truthW {X : Cx} {a : Expr} {ta : TE} (K : PySem.W.Frag) (hK : X.K = K) (ha : PE X a ta) (he : ∀ whole, isTrue a X.env whole = (do let v ← whole; standAt a.pos; holding [v] (truthy v))) : PT X a (fun σ H Q => ta σ H fun x H' => ∃ k, TruV K x H' k ∧ Q k H') := by
  subst hK
  exact pt_truth ha he
theorem op_catW {X : Cx} (K : PySem.W.Frag) (hK : X.K = K) : OpR X (binaryOp .Add) (rCatA K) := by
  subst hK
  exact op_catA
section
variable {X : Cx} {elt iter iter' : Expr} {scope : Scope} {pos pos' spos : Pos} {N : List Str} {js : List Nat} {sc : Scope} {N0 : List Str} {wi wi' : TI} {te : TE} {x z nm : Str} {px pz : Pos} {ii : Nat}
theorem ps_compO1 (hNd : X.N.Nodup) (hii : X.N[ii]? = some nm) (hloc : Loc X.env.scope nm) (hc : X.calm = true) (hsc : X.env.scope = sc) (hN : X.N = N0) (B : Blk sc N0 (x :: z :: N) 2 js scope) (hx : scope.names.lookup x = some .local) (hz : scope.names.lookup z = some .local) (hi : PI X (.Name x px) iter wi)
    (hi' : ∀ cl C s H fp, PI (blk X (x :: z :: N) scope cl C s H fp) (.Name z pz) iter' wi') (he : ∀ cl C s H fp, PE (blk X (x :: z :: N) scope cl C s H fp) elt te)
    (hsw : swapsWith (.ListComp elt [⟨.Name x px, iter, [], 0⟩, ⟨.Name z pz, iter', [], 0⟩] scope pos) (some (.Name nm pos')) spos.line X.env = pure true := by rfl)
    (hf : X.fn nm = true ∨ X.env.scope.names.lookup nm = some .local := by first | exact .inl rfl | exact .inr rfl | assumption)
    (hs : ∀ x, foldedSetIterable iter X.env x = pure x := by intro _; rfl) (hs' : ∀ env x, foldedSetIterable iter' env x = pure x := by intro _ _; rfl) :
    PS X (.Assign [.Name nm pos'] (.ListComp elt [⟨.Name x px, iter, [], 0⟩, ⟨.Name z pz, iter', [], 0⟩] scope pos) spos) (tSetC ii (tComp2 2 js wi (gName 0) wi' (gName 1) te)) :=
  ps_compO hNd hii hloc hc hsc hN B hi (fun cl C s H fp => pg_name (i := 0) B.nd rfl (.inl (blk_loc hx)) (.inr (blk_loc hx))) hi' (fun cl C s H fp => pg_name (i := 1) B.nd rfl (.inl (blk_loc hz)) (.inr (blk_loc hz))) he hsw hf hs hs'
end
end L2
end
section
/-! sorted(l), sorted(t) of ints. -/
namespace L2
open PySem PySem.Spec PyProof.Rows
set_option maxHeartbeats 4000000
set_option maxRecDepth 100000
set_option Elab.async false
set_option linter.unusedVariables false
section
variable {X : Cx}
def rSortL : List V → Hp → VK → Prop := fun xs H Q => ∃ (a : Addr) (ks : List Int), xs = [.ref a] ∧ (H a = some (.lst (ks.map V.int)) ∨ H a = some (.tup (ks.map V.int))) ∧ ks.length < 64 ∧
  ∀ (ns : List Int) (l : Addr), ns.Perm ks → ns.Pairwise (· ≤ ·) → H l = none → Q (.ref l) (upd H l (.lst (ns.map V.int)))
theorem call_sortL : CallR X (.builtin "sorted") rSortL := by
  intro pins s σ H xs us Q I r h
  obtain ⟨a, ks, rfl, ha, h64, q⟩ := h
  obtain ⟨u, rfl, rx⟩ := vals1 r
  cases (show u = Value.ref a from rx)
  have seq : ∃ (T : String) (o : Obj) (vs : List Value) (n : Nat), (T = "list" ∨ T = "tuple") ∧ s.heap.get? a = some o ∧ o.cls = .type T ∧ o.data = .seq vs.toArray n ∧ Vals (ks.map V.int) vs := by
    rcases ha with ha | ha
    · obtain ⟨_, vs, n, rv, ho⟩ : _ ∧ ∃ (its : List Value) (n : Nat), Vals (ks.map V.int) its ∧ s.heap.get? a = some { cls := .type "list", data := .seq its.toArray n } := I.hok a _ ha
      exact ⟨"list", _, vs, n, .inl rfl, ho, rfl, rfl, rv⟩
    · obtain ⟨_, vs, rv, o, g1, g2, n, g3⟩ : _ ∧ ∃ its : List Value, Vals (ks.map V.int) its ∧ IsTup s.heap a its.toArray := I.hok a _ ha
      exact ⟨"tuple", o, vs, n, .inr rfl, g1, g2, g3, rv⟩
  obtain ⟨T, o, vs, n, hT, g1, g2, g3, rv⟩ := seq
  have lk : vs.length = ks.length := by have := rv.length; rw [List.length_map] at this; exact this.symm
  have szv : vs.length ≤ sizeLine := by rw [sizeLine_eq]; omega
  have hI : IntsAre vs ks := by
    refine intsAre_of (vals_of _ _ lk fun j u hj => ?_)
    have jl : j < ks.length := by rw [← lk]; exact (List.getElem?_eq_some_iff.mp hj).1
    have e3 : (ks.map V.int)[j]? = some (.int ks[j]) := by rw [List.getElem?_map, List.getElem?_eq_getElem jl]; rfl
    obtain ⟨v, e4, rv'⟩ := rv.get e3
    rw [hj] at e4
    cases e4
    obtain ⟨t, e5⟩ := (show ∃ t, u = Value.int ks[j] t from rv')
    exact ⟨t, ks[j], List.getElem?_eq_getElem jl, e5⟩
  refine Calls.call_function_entry kind_sorted plain_sorted entry_sorted (args_sorted1 _) ?_
  unfold Builtin.«sorted»
  refine wpAny_bind (m := checkCount "sorted" 1 1 _) (wpAny_pure ?_)
  refine wpAny_bind (wpAny_collect_seq a hT g1 g2 g3 (fun h' hk' => ?_) (by rw [List.size_toArray]; exact szv))
  have I0 : Inv X pins σ H { s with heap := h' } := I.kept (t' := s.toks) hk'
  rw [show vs.toArray.toList = vs from rfl]
  refine wpAny_bind (wpAny_newList ?_ szv)
  have hoL : (h'.push (seqObj "list" vs.toArray 0)).get? h'.objs.size = some (seqObj "list" vs.toArray 0) := Heap.get?_push_size _ rfl
  refine wpAny_bind (wpAny_holding (wpAny_call_entry slot_list_sort ⟨_, hoL, rfl⟩ entry_list_sort (list_sort_tree (s := { s with heap := h'.push (seqObj "list" vs.toArray 0) }) hoL hI (by rw [lk]; exact h64) fun out ns' a1 a2 a3 => ⟨_, rfl, ?_⟩) (args_list_sort _)))
  obtain ⟨e, he⟩ := sortedHeap_at (out := out) hoL
  have old : ∀ b o, h'.get? b = some o → (sortedHeap (h'.push (seqObj "list" vs.toArray 0)) h'.objs.size vs out).get? b = some o := fun b o eb => by
    have lt := Heap.lt_size eb
    rw [sortedHeap_old (h := h'.push (seqObj "list" vs.toArray 0)) (b := b) (Nat.ne_of_lt lt) (by rw [Heap.size_push]; exact Nat.lt_succ_of_lt lt)]
    exact Heap.get?_push_of_some _ eb
  refine wpAny_pure ⟨_, rfl, .ref h'.objs.size, _, I0.laid (a := h'.objs.size) (t' := s.toks) (o := .lst (ns'.map V.int)) old (Nat.le_refl _) ?_, rfl, q ns' _ a2 a3 (I0.hok.fresh (Nat.le_refl _))⟩
  refine ⟨by rw [List.length_map, a2.length_eq, sizeLine_eq]; omega, out.toList, e, vals_ints a1, ?_⟩
  have e9 : out.toList.toArray = out := by simp
  rw [e9]
  exact he
end
end L2
end
section
/-! Rings as keys of a dict: a tuple of a number and a tuple of numbers. -/
namespace L2
open PySem PySem.Spec PySem.W PyProof.Rows
set_option maxHeartbeats 4000000
set_option maxRecDepth 100000
set_option Elab.async false
set_option linter.unusedVariables false
section
variable {prog : Program} {w : World}
/-- at a lies the ring k, as a key -/
def RgKey (h : Heap) (k : Int × List Int) (a : Addr) : Prop := ∃ (r : Addr) (o : Obj) (n : Nat) (t : Tok), h.get? a = some o ∧ o.cls = .type "tuple" ∧ o.data = .seq #[.int k.1 t, .ref r] n ∧ IsTupleKey (intKind prog w) h k.2 r
def rgHash (k : Int × List Int) : Int := reduceHash (Builtin.Tuple.tupleHashOf [hashInt k.1, tupleKeyHash (intKind prog w) k.2])
variable {A : Around} {E : Value → Shared → Prop} {s : Shared}
theorem RgKey.typeIs {k : Int × List Int} {a : Addr} (h : RgKey (prog := prog) (w := w) s.heap k a) : s.TypeIs (.ref a) "tuple" := let ⟨_, o, _, _, ho, hc, _⟩ := h; ⟨o, ho, hc⟩
theorem RgKey.inj {h : Heap} {a : Addr} {x y : Int × List Int} (hx : RgKey (prog := prog) (w := w) h x a) (hy : RgKey (prog := prog) (w := w) h y a) : x = y := by
  obtain ⟨r, o, n, t, e, _, d, i⟩ := hx
  obtain ⟨r', o', n', t', e', _, d', i'⟩ := hy
  rw [e] at e'
  cases e'
  rw [d] at d'
  injection d' with d1 _
  have d2 := congrArg Array.toList d1
  injection d2 with d3 d4
  injection d4 with d5 _
  cases d5
  have e1 : x.1 = y.1 := by injection d3
  exact Prod.ext e1 (i.inj i')
theorem RgKey.keeps {h h' : Heap} {k : Int × List Int} {a d : Addr} {o : Obj} {es ep} (x : RgKey (prog := prog) (w := w) h k a) (ho : h.get? d = some o) (hd : o.data = .dict es ep) (hs : Heap.SameBut d h h') : RgKey (prog := prog) (w := w) h' k a := by
  obtain ⟨r, o', n, t, e, c, dd, i⟩ := x
  have ne : a ≠ d := fun z => by
    rw [z, ho] at e
    cases e
    rw [hd] at dd
    exact nomatch dd
  exact ⟨r, o', n, t, (hs.2 a ne).trans e, c, dd, i.keeps ho hd hs⟩
/-- the hash of a pair of things whose hashes are known -/
theorem pair_hash (a r : Addr) (v : Int) (t : Tok) (n : Nat) (c : Option Addr) (sl : Array (Option Value)) (bs : List Int) (hu : A.units + 1 < cLine) {R : Fin → Shared → Prop}
    (ho : s.heap.get? a = some { cls := .type "tuple", dict := c, data := .seq #[.int v t, .ref r] n, slots := sl }) (hr : IsTupleKey (intKind prog w) s.heap bs r)
    (q : ∀ tk, R (.done (.ret (.int (Builtin.Tuple.tupleHashOf [hashInt v, tupleKeyHash (intKind prog w) bs]) tk))) { s with toks := s.toks + (bs.length + 3) }) :
    wpAny (model prog w) A (Builtin.«tuple.__hash__» ⟨[.ref a], []⟩) R E s := by
  have e1 : ∀ {Q : Int → Shared → Prop} {s' : Shared}, Q (hashInt v) { s' with toks := s'.toks + 1 } → wpAny (model prog w) A (pyHash (.int v t)) Q E s' := fun h => wpAny_pyHash_int h
  have e2 : ∀ {Q : Int → Shared → Prop} {s' : Shared}, s'.heap = s.heap → Q (tupleKeyHash (intKind prog w) bs) { s' with toks := s'.toks + (bs.length + 1) } → wpAny (model prog w) A (pyHash (.ref r)) Q E s' := fun eh h => wpAny_pyHash_tuple (by omega) (by rw [eh]; exact hr) h
  obtain ⟨hp, g, d, tk, os⟩ := s
  unfold Builtin.«tuple.__hash__»
  generalize hP : pyHash = PH at e1 e2 ⊢
  wp_walk
  refine e1 ?_
  wp_walk
  refine e2 rfl ?_
  wp_walk
  show R (.done (.ret (.int (Builtin.Tuple.tupleHashOf [hashInt v, tupleKeyHash (intKind prog w) bs]) _))) ⟨hp, g, d, tk + 1 + (bs.length + 1) + 1, os⟩
  rw [show tk + 1 + (bs.length + 1) + 1 = tk + (bs.length + 3) by omega]
  exact q _
end
end L2
end
section
namespace L2
open PySem PySem.Spec PySem.W PyProof.Rows
set_option maxHeartbeats 4000000
set_option maxRecDepth 100000
set_option Elab.async false
set_option linter.unusedVariables false
section
variable {prog : Program} {w : World} {A : Around} {E : Value → Shared → Prop} {s : Shared}
theorem rg_hash {k : Int × List Int} {a : Addr} {Q : Int → Shared → Prop} (hu : A.units + 2 < cLine) (hk : RgKey (prog := prog) (w := w) s.heap k a) (q : Q (rgHash (prog := prog) (w := w) k) { s with toks := s.toks + (k.2.length + 3) }) : wpAny (model prog w) A (pyHash (.ref a)) Q E s := by
  have hT := hk.typeIs
  obtain ⟨r, ⟨oc, od, oa, os0⟩, n, t, ho, hc, hd, hi⟩ := hk
  simp only at hc hd
  subst hc hd
  have key : ∀ {R : Fin → Shared → Prop}, (∀ tk, R (.done (.ret (.int (Builtin.Tuple.tupleHashOf [hashInt k.1, tupleKeyHash (intKind prog w) k.2]) tk))) { s with toks := s.toks + (k.2.length + 3) }) → wpAny (model prog w) A.in1 (Builtin.«tuple.__hash__» ⟨[.ref a], []⟩) R E s := fun h => pair_hash (A := A.in1) a r k.1 t n od os0 k.2 (by show A.units + 1 + 1 < cLine; omega) ho hi h
  have call : ∀ {x : Sem Value} {Q' : Option Value → Shared → Prop}, (∀ tk, Q' (some (.int (Builtin.Tuple.tupleHashOf [hashInt k.1, tupleKeyHash (intKind prog w) k.2]) tk)) { s with toks := s.toks + (k.2.length + 3) }) → wpAny (model prog w) A (callSpecialIfBoundUnlessNone? (.ref a) (Str.ofString "__hash__") x) Q' E s := fun h => by
    refine wpAny_callSpecialIfBoundUnlessNone?_slot hT F.slot_tuple_hash ?_
    refine wpAny_call_entry F.slot_tuple_hash hT F.entry_tuple_hash ?_ (F.args_tuple_hash_1 _)
    exact key fun tk => ⟨_, rfl, h tk⟩
  unfold pyHash pyHashByItsType
  refine wpAny_bind (wpAny_cRoomFor_or (.inr (show A.units < cLine by omega)) ?_)
  wp_walk using wpAny_specialOf hT F.slot_tuple_hash.lookup, call
  intro tk
  show wpAny (model prog w) A (pyHashByItsType.reduced _) Q E _
  unfold rgHash reduceHash at q
  unfold pyHashByItsType.reduced
  split
  · rename_i c
    rw [if_pos c] at q
    exact wpAny_pure q
  · rename_i c
    rw [if_neg c] at q
    exact wpAny_bind (wpAny_rule (wpAny_pure q))
end
end L2
end
section
namespace L2
open PySem PySem.Spec PySem.W PyProof.Rows
set_option maxHeartbeats 4000000
set_option maxRecDepth 100000
set_option Elab.async false
set_option linter.unusedVariables false
section
variable {prog : Program} {w : World} {A : Around} {E : Value → Shared → Prop} {s : Shared}
theorem pair_eq (a b r r' : Addr) (v v' : Int) (t t' : Tok) (n n' : Nat) (c c' : Option Addr) (sl sl' : Array (Option Value)) (bs bs' : List Int) (hu : A.units + 1 < cLine) {R : Fin → Shared → Prop}
    (ho : s.heap.get? a = some { cls := .type "tuple", dict := c, data := .seq #[.int v t, .ref r] n, slots := sl }) (hr : IsTupleKey (intKind prog w) s.heap bs r)
    (ho' : s.heap.get? b = some { cls := .type "tuple", dict := c', data := .seq #[.int v' t', .ref r'] n', slots := sl' }) (hr' : IsTupleKey (intKind prog w) s.heap bs' r')
    (q : R (.done (.ret (.bool (decide ((v, bs) = (v', bs')))))) s) :
    wpAny (model prog w) A (Builtin.«tuple.__eq__» ⟨[.ref a, .ref b], []⟩) R E s := by
  have e1 : ∀ {Q : Bool → Shared → Prop}, Q (v == v') s → wpAny (model prog w) A (eqBool (.int v t) (.int v' t')) Q E s := fun h => wpAny_eqBool_int h
  have e2 : ∀ {Q : Bool → Shared → Prop}, Q (decide (bs = bs')) s → wpAny (model prog w) A (eqBool (.ref r) (.ref r')) Q E s := fun h => wpAny_eqBool_tuple (by omega) hr hr' h
  have hb : s.TypeIs (.ref b) "tuple" := ⟨_, ho', rfl⟩
  have hi : ∀ {Q : Bool → Shared → Prop}, Q true s → wpAny (model prog w) A (isInstance (.ref b) (.type "tuple")) Q E s := fun h => wpAny_isInstance hb isSubtype_tuple_tuple h
  obtain ⟨hp, g, d, tk, os⟩ := s
  unfold Builtin.«tuple.__eq__»
  wp_walk using hi, e1, e2
  by_cases hv : v = v'
  · subst hv
    rw [if_neg (by simp)]
    wp_walk using e2
    by_cases hb' : bs = bs'
    · subst hb'
      rw [if_neg (by simp)]
      rw [decide_eq_true rfl] at q
      wp_walk
      exact q
    · rw [if_pos (by simp [hb'])]
      rw [decide_eq_false (by simp [hb'])] at q
      wp_walk
      exact q
  · rw [if_pos (by simp [hv])]
    rw [decide_eq_false (by simp [hv])] at q
    wp_walk
    exact q
end
end L2
end
section
namespace L2
open PySem PySem.Spec PySem.W PyProof.Rows
set_option maxHeartbeats 4000000
set_option maxRecDepth 100000
set_option Elab.async false
set_option linter.unusedVariables false
section
variable {prog : Program} {w : World} {A : Around} {E : Value → Shared → Prop} {s : Shared}
theorem rg_eq {x y : Int × List Int} {a b : Addr} {Q : Bool → Shared → Prop} (hu : A.units + 2 < cLine) (hx : RgKey (prog := prog) (w := w) s.heap x a) (hy : RgKey (prog := prog) (w := w) s.heap y b) (q : Q (decide (x = y)) s) : wpAny (model prog w) A (eqBool (.ref a) (.ref b)) Q E s := by
  by_cases ab : a = b
  · subst ab
    obtain rfl := hx.inj hy
    rw [decide_eq_true rfl] at q
    obtain ⟨hp, g, d, tk, os⟩ := s
    unfold eqBool
    wp_walk
    exact q
  · have tx := hx.typeIs
    have ty := hy.typeIs
    obtain ⟨r, ⟨c, dd, da, sl⟩, n, t, ho, hc, hd, hi⟩ := hx
    obtain ⟨r', ⟨c', dd', da', sl'⟩, n', t', ho', hc', hd', hi'⟩ := hy
    simp only at hc hd hc' hd'
    subst hc hd hc' hd'
    have cmp : ∀ {R : Fin → Shared → Prop}, R (.done (.ret (.bool (decide (x = y))))) s → wpAny (model prog w) A.in1 (Builtin.«tuple.__eq__» ⟨[.ref a, .ref b], []⟩) R E s := fun h =>
      pair_eq (A := A.in1) a b r r' x.1 y.1 t t' n n' dd dd' sl sl' x.2 y.2 (by show A.units + 1 + 1 < cLine; omega) ho hi ho' hi' h
    unfold eqBool
    refine wpAny_holding ?_
    rw [if_neg (fun e => ab (by have := eq_of_beq e; injection this))]
    refine wpAny_bind ?_
    refine wpAny_richCompare_same_room (op := .Eq) tx ty F.slot_tuple_eq ?_ (by omega)
    refine wpAny_call_entry F.slot_tuple_eq tx F.entry_tuple_eq ?_ (F.args_tuple_eq_2 _ _)
    exact cmp ⟨_, rfl, (fun e => nomatch e), wpAny_truthy_bool q⟩
/-- no value of the list asks anything of its own -/
theorem quiet_all (m : Nat) : ∀ (l : List Value), (∀ v ∈ l, eqIsQuiet m v = pure true) → (forIn l ((none, ()) : Option Bool × Unit) fun y _ => do
      let b ← eqIsQuiet m y
      if (!b) = true then pure (ForInStep.done (some false, ())) else pure (ForInStep.yield (none, ()))) = (pure (none, ()) : Sem (Option Bool × Unit))
  | [], _ => rfl
  | v :: l, h => by
    rw [List.forIn_cons, h v List.mem_cons_self]
    have ih := quiet_all m l fun u hu => h u (List.mem_cons_of_mem _ hu)
    exact ih
/-- a tuple whose things ask nothing of their own asks nothing when held against others -/
theorem tup_quiet (m : Nat) {r : Addr} {o : Obj} {items : Array Value} {n : Nat} {Q : Bool → Shared → Prop} (ho : s.heap.get? r = some o) (hc : o.cls = .type "tuple") (hd : o.data = .seq items n) (all : ∀ v ∈ items.toList, eqIsQuiet m v = pure true) (q : Q true s) :
    wpAny (model prog w) A (eqIsQuiet (m + 1) (.ref r)) Q E s := by
  have ty : s.TypeIs (.ref r) "tuple" := ⟨o, ho, hc⟩
  unfold eqIsQuiet
  refine wpAny_bind (wpAny_specialOf ty F.slot_tuple_eq.lookup ?_)
  dsimp only
  refine wpAny_bind (wpAny_isInstance ty isSubtype_tuple_tuple ?_)
  rw [if_neg (by simp)]
  refine wpAny_bind (wpAny_seqItems ho hd ?_)
  rw [Option.getD_some, ← Array.forIn_toList, quiet_all m items.toList all]
  exact wpAny_bind (wpAny_pure (wpAny_pure q))
theorem ints_quiet (m : Nat) {bs : List Int} {r : Addr} {Q : Bool → Shared → Prop} (hr : IsTupleKey (intKind prog w) s.heap bs r) (q : Q true s) : wpAny (model prog w) A (eqIsQuiet (m + 1) (.ref r)) Q E s := by
  obtain ⟨o, items, n, ho, hc, hd, its⟩ := hr
  exact tup_quiet m ho hc hd (fun v hv => eqIsQuiet_byValue m (its.byValue v hv)) q
end
end L2
end
section
namespace L2
open PySem PySem.Spec PySem.W PyProof.Rows
set_option maxHeartbeats 4000000
set_option maxRecDepth 100000
set_option Elab.async false
set_option linter.unusedVariables false
section
variable {prog : Program} {w : World} {A : Around} {E : Value → Shared → Prop} {s : Shared}
theorem rg_quiet {k : Int × List Int} {a : Addr} {Q : Bool → Shared → Prop} (hk : RgKey (prog := prog) (w := w) s.heap k a) (q : Q true s) : wpAny (model prog w) A (eqIsQuiet 8 (.ref a)) Q E s := by
  obtain ⟨r, o, n, t, ho, hc, hd, hi⟩ := hk
  have ty : s.TypeIs (.ref a) "tuple" := ⟨o, ho, hc⟩
  have inner : ∀ {Q' : Bool → Shared → Prop}, Q' true s → wpAny (model prog w) A (eqIsQuiet 7 (.ref r)) Q' E s := fun h => ints_quiet 6 hi h
  unfold eqIsQuiet
  refine wpAny_bind (wpAny_specialOf ty F.slot_tuple_eq.lookup ?_)
  dsimp only
  refine wpAny_bind (wpAny_isInstance ty isSubtype_tuple_tuple ?_)
  rw [if_neg (by simp)]
  refine wpAny_bind (wpAny_seqItems ho hd ?_)
  rw [Option.getD_some, ← Array.forIn_toList]
  refine wpAny_bind ?_
  show wpAny _ _ (forIn [Value.int k.1 t, Value.ref r] _ _) _ _ s
  rw [List.forIn_cons, show eqIsQuiet 7 (Value.int k.1 t) = pure true from eqIsQuiet_byValue 7 rfl]
  refine wpAny_bind (wpAny_bind (wpAny_pure (wpAny_pure ?_)))
  show wpAny _ _ (forIn [Value.ref r] _ _) _ _ s
  rw [List.forIn_cons]
  refine wpAny_bind (wpAny_bind (inner (wpAny_pure ?_)))
  exact wpAny_pure (wpAny_pure q)
/-- rings as keys -/
def ringKind : HeapKind prog w (Int × List Int) where
  is := RgKey (prog := prog) (w := w)
  hash := rgHash (prog := prog) (w := w)
  draws := fun k => k.2.length + 3
  room := fun A => A.units + 2 < cLine
  inj := fun hx hy => hx.inj hy
  keeps := fun x ho hd hs => x.keeps ho hd hs
  pyHash := fun hu hk h => rg_hash hu hk h
  eqBool := fun hu hx hy h => rg_eq hu hx hy h
  quiet := fun hk h => rg_quiet hk h
end
end L2
end
section
namespace L2
open PySem PySem.Spec PySem.W PyProof.Rows
set_option maxHeartbeats 4000000
set_option maxRecDepth 100000
set_option Elab.async false
set_option linter.unusedVariables false
section
variable {prog : Program} {w : World} {A : Around} {E : Value → Shared → Prop} {s : Shared} {κ : Type} [DecidableEq κ] {knd : HeapKind prog w κ}
theorem er_map {α β : Type} (f : α → β) : ∀ (l : List α) (i : Nat), (l.map f).eraseIdx i = (l.eraseIdx i).map f
  | [], i => by simp
  | x :: l, 0 => rfl
  | x :: l, i + 1 => by
    show f x :: (l.map f).eraseIdx i = f x :: (l.eraseIdx i).map f
    rw [er_map f l i]
/-- an entry taken out, at the i-th place -/
theorem take_heap {d a : Addr} {xs : List (κ × Addr × Value)} {k : κ} {i : Nat} {p : Addr × Value} {Q : Option DictEntry → Shared → Prop} (hu : knd.room A) (hk : knd.is s.heap k a) (hm : s.heap.DictOfH knd d xs) (hi : xs[i]? = some (k, p)) (hz : xs.length ≤ sizeLine)
    (q : ∀ h', h'.DictOfH knd d (xs.eraseIdx i) → Heap.SameBut d s.heap h' → Q (some (entryOfKey knd (k, p))) { s with heap := h', toks := s.toks + knd.draws k }) : wpAny (model prog w) A (Builtin.Dict.takeOut d (.ref a)) Q E s := by
  obtain ⟨⟨c, dd, da, sl⟩, es, ep, ho, ⟨hx1, hx2, hx3⟩, hd, he, his, hn⟩ := hm
  simp only at hx1 hx2 hx3 hd
  subst hx1 hx2 hx3 hd
  have ei : es[i]? = some (entryOfKey knd (k, p)) := by rw [entry_at he, hi]; rfl
  have hes : es.size = xs.length := size_of_entries he
  have e1 : ∀ {Q : Int → Shared → Prop}, Q (knd.hash k) { s with toks := s.toks + knd.draws k } → wpAny (model prog w) A (pyHash (.ref a)) Q E s := fun h => knd.pyHash hu hk h
  have e2 : ∀ {Q : Option Nat → Shared → Prop}, Q (some i) { s with toks := s.toks + knd.draws k } → wpAny (model prog w) A (dictFind d (.ref a) (knd.hash k)) Q E { s with toks := s.toks + knd.draws k } := fun h =>
    wpAny_dictFind_heap (s := { s with toks := s.toks + knd.draws k }) hu hk ho rfl he his hn (fun no => absurd hi (no i p)) fun j p' hj => by rw [idxH_unique hn hj hi]; exact h
  unfold Builtin.Dict.takeOut
  refine wpAny_holding ?_
  refine wpAny_bind (e1 (wpAny_bind (e2 ?_)))
  wp_walk
  rw [ei]
  dsimp only
  refine wpAny_bind (wpAny_updateDictKeys (s := { s with toks := s.toks + knd.draws k }) ho rfl (wpAny_pure (q _ ?_ (Heap.SameBut.update ..))) (by rw [hes]; exact hz) ?_)
  · refine ⟨_, es.eraseIdxIfInBounds i, ep + 1, Heap.get?_update_self _ ho (Obj.isFreed_of_dict (Obj.data_mapDictKeys rfl _)), ⟨rfl, rfl, rfl⟩, Obj.data_mapDictKeys rfl _, ?_, fun x hx => ?_, ?_⟩
    · rw [Array.toList_eraseIdxIfInBounds, he, er_map]
    · exact knd.keeps (his x (List.mem_of_mem_eraseIdx hx)) ho rfl (Heap.SameBut.update ..)
    · rw [← er_map]
      exact hn.sublist (List.eraseIdx_sublist _ _)
  · have := List.length_eraseIdx_le es.toList i
    rw [← Array.length_toList, Array.toList_eraseIdxIfInBounds, ← Array.length_toList]
    omega
/-- d.pop(key), the key there, at the i-th place -/
theorem pop_heap {d a : Addr} {xs : List (κ × Addr × Value)} {k : κ} {i : Nat} {p : Addr × Value} {R : Fin → Shared → Prop} (hu : knd.room A) (hk : knd.is s.heap k a) (hm : s.heap.DictOfH knd d xs) (hi : xs[i]? = some (k, p)) (hz : xs.length ≤ sizeLine)
    (q : ∀ h', h'.DictOfH knd d (xs.eraseIdx i) → Heap.SameBut d s.heap h' → R (.done (.ret p.2)) { s with heap := h', toks := s.toks + knd.draws k }) : wpAny (model prog w) A (Builtin.«dict.pop» ⟨[.ref d, .ref a], []⟩) R E s := by
  have ty := hm.typeIs
  have tk : ∀ {Q : Option DictEntry → Shared → Prop}, (∀ h', h'.DictOfH knd d (xs.eraseIdx i) → Heap.SameBut d s.heap h' → Q (some (entryOfKey knd (k, p))) { s with heap := h', toks := s.toks + knd.draws k }) → wpAny (model prog w) A (Builtin.Dict.takeOut d (.ref a)) Q E s := fun h => take_heap hu hk hm hi hz h
  obtain ⟨⟨c, dd, da, sl⟩, es, ep, ho, ⟨hx1, hx2, hx3⟩, hd, he, his, hn⟩ := hm
  simp only at hx1 hx2 hx3 hd
  subst hx1 hx2 hx3 hd
  have ei : es[i]? = some (entryOfKey knd (k, p)) := by rw [entry_at he, hi]; rfl
  have ne : es.isEmpty = false := by
    cases z : es.isEmpty with
    | false => rfl
    | true =>
      have := Array.isEmpty_iff.mp z
      rw [this] at ei
      cases ei
  unfold Builtin.«dict.pop» Builtin.Dict.keyAndDefault
  wp_walk using wpAny_notOrdered_dict ty, tk
  intro h' m' s'
  show wpAny _ _ (letGo [(entryOfKey knd (k, p)).key] [(entryOfKey knd (k, p)).val] >>= _) _ _ _
  exact wpAny_bind (wpAny_letGo (wpAny_pure (q h' m' s')))
end
end L2
end
section
/-! A dict whose keys are rings, in the layer. -/
namespace L2
open PySem PySem.Spec PySem.W PyProof.Rows
set_option maxHeartbeats 4000000
set_option maxRecDepth 100000
set_option Elab.async false
set_option linter.unusedVariables false
abbrev Rng := Int × List Int
/-- the dict at a, with the rings xs for its keys, at their places -/
def rawRg (P : Program) (w : World) (a : Addr) (xs : List (Rng × Addr × Value)) : Heap → Prop := fun h => ∃ o es ep, h.get? a = some o ∧ o.ExactDict ∧ o.data = .dict es ep ∧ es.toList = xs.map (entryOfKey (ringKind (prog := P) (w := w)))
structure RgD (P : Program) (w : World) (H : Hp) (a : Addr) (xs : List (Rng × Addr × Value)) : Prop where
  at_ : H a = some (.ext (rawRg P w a xs))
  few : xs.length ≤ 1000
  nsm : (a == sysModules) = false
  nd : (xs.map (·.1)).Nodup
  keys : ∀ x ∈ xs, RgAt H x.2.1 x.1.1 x.1.2
section
variable {X : Cx} {pins : List (Addr × Obj)} {σ : St} {H : Hp} {s : Shared}
theorem ints_items (P : Program) (w : World) : ∀ {bs : List Int} {its : List Value}, Vals (bs.map V.int) its → ItemsAre (intKind P w) bs its
  | [], _, .nil => .nil
  | b :: bs, _, .cons r rs => by
    obtain ⟨t, rfl⟩ := (show ∃ t, _ = Value.int b t from r)
    exact .cons (keyIs_int b t) (ints_items P w rs)
theorem ints_key (I : Inv X pins σ H s) {r : Addr} {bs : List Int} (h : H r = some (.tup (bs.map V.int))) : IsTupleKey (intKind X.prog X.w) s.heap bs r := by
  obtain ⟨its, rv, ⟨o, ho, hc, n, hd⟩, _⟩ := I.tuple (SqT.of (K := X.K) h)
  exact ⟨o, its.toArray, n, ho, hc, hd, ints_items X.prog X.w rv⟩
theorem ring_key (I : Inv X pins σ H s) {a : Addr} {n : Int} {bs : List Int} (h : RgAt H a n bs) : RgKey (prog := X.prog) (w := X.w) s.heap (n, bs) a := by
  obtain ⟨r, h1, h2⟩ := h
  obtain ⟨its, rv, ⟨o, ho, hc, m, hd⟩, _⟩ := I.tuple (SqT.of (K := X.K) h1)
  cases rv with
  | cons r1 r2 =>
    cases r2 with
    | cons r3 r4 =>
      cases r4
      obtain ⟨t, rfl⟩ := (show ∃ t, _ = Value.int n t from r1)
      cases (show _ = Value.ref r from r3)
      exact ⟨r, o, m, t, ho, hc, hd, ints_key I h2⟩
theorem rgd_of (I : Inv X pins σ H s) {d : Addr} {xs : List (Rng × Addr × Value)} (h : RgD X.prog X.w H d xs) : s.heap.DictOfH (ringKind (prog := X.prog) (w := X.w)) d xs := by
  obtain ⟨⟨o, es, ep, ho, hx, hd, he⟩, _, _⟩ : rawRg X.prog X.w d xs s.heap ∧ _ := I.hok d _ h.at_
  exact ⟨o, es, ep, ho, hx, hd, he, fun x hx => ring_key I (h.keys x hx), h.nd⟩
theorem atKey_in {xs : List (Rng × Addr × Value)} (nd : (xs.map (·.1)).Nodup) (k : Rng) : (atKey xs k).isSome = decide (k ∈ xs.map (·.1)) := by
  by_cases c : k ∈ xs.map (·.1)
  · obtain ⟨x, hx, rfl⟩ := List.mem_map.mp c
    obtain ⟨i, hi⟩ := List.getElem?_of_mem hx
    rw [atKey_of_get nd (i := i) (k := x.1) (p := x.2) hi, decide_eq_true c]
    rfl
  · rw [atKey_none_of_get fun j p e => c (List.mem_map.mpr ⟨_, List.mem_of_getElem? e, rfl⟩), decide_eq_false c]
    rfl
/-- ring in dict -/
def rInRg (P : Program) (w : World) : R2 := fun x y H Q => ∃ (a d : Addr) (n : Int) (bs : List Int) (xs : List (Rng × Addr × Value)), x = .ref a ∧ y = .ref d ∧ RgAt H a n bs ∧ RgD P w H d xs ∧ Q (.bl (decide ((n, bs) ∈ xs.map (·.1)))) H
theorem op_inRg (hu : X.A.units + 3 < cLine) : OpR X (compareOp .In) (rInRg X.prog X.w) := by
  intro pins s σ H x y v u Q I rx ry h
  obtain ⟨a, d, n, bs, xs, rfl, rfl, ra, rd, q⟩ := h
  cases rx
  cases ry
  refine wpAny_in_heap (knd := ringKind) (k := (n, bs)) (xs := xs) (show X.A.units + 1 + 2 < cLine by omega) (ring_key I ra) rd.nsm (rgd_of I rd) ?_
  rw [atKey_in rd.nd]
  exact ⟨.bl _, H, I.tok _, rfl, q⟩
end
end L2
end
section
namespace L2
open PySem PySem.Spec PySem.W PyProof.Rows
set_option maxHeartbeats 4000000
set_option maxRecDepth 100000
set_option Elab.async false
set_option linter.unusedVariables false
theorem raw_stays (P : Program) (w : World) (a : Addr) (xs : List (Rng × Addr × Value)) : ∀ h1 h2 : Heap, rawRg P w a xs h1 → (∀ o, h1.get? a = some o → h2.get? a = some o) → rawRg P w a xs h2 := fun h1 h2 ⟨o, es, ep, e, r⟩ k => ⟨o, es, ep, k o e, r⟩
theorem raw_ok {P : Program} {w : World} {H : Hp} {h : Heap} {a : Addr} {xs : List (Rng × Addr × Value)} (r : rawRg P w a xs h) : ObjOk P w H h a (.ext (rawRg P w a xs)) := ⟨r, let ⟨o, _, _, e, _⟩ := r; ⟨o, e⟩, raw_stays P w a xs⟩
theorem RgAt.upd {H : Hp} {a d : Addr} {n : Int} {bs : List Int} {φ : Heap → Prop} {o : HO} (h : RgAt H a n bs) (hd : H d = some (.ext φ)) : RgAt (L2.upd H d o) a n bs := by
  obtain ⟨r, h1, h2⟩ := h
  exact ⟨r, by rw [upd_ne (fun z => by rw [z, hd] at h1; cases h1)]; exact h1, by rw [upd_ne (fun z => by rw [z, hd] at h2; cases h2)]; exact h2⟩
theorem RgD.erase {P : Program} {w : World} {H : Hp} {d : Addr} {xs : List (Rng × Addr × Value)} (h : RgD P w H d xs) (i : Nat) : RgD P w (upd H d (.ext (rawRg P w d (xs.eraseIdx i)))) d (xs.eraseIdx i) := by
  refine ⟨upd_same, Nat.le_trans (List.length_eraseIdx_le xs i) h.few, h.nsm, ?_, fun x hx => (h.keys x (List.mem_of_mem_eraseIdx hx)).upd h.at_⟩
  rw [← er_map]
  exact h.nd.sublist (List.eraseIdx_sublist _ _)
/-- d.pop(ring), there; what is kept by it is True -/
def tRPop (P : Program) (w : World) (td ty : TE) : TE := fun σ H Q => td σ H fun x H1 => ∃ d xs0, x = .ref d ∧ RgD P w H1 d xs0 ∧ ty σ H1 fun y H2 => ∃ a n bs xs i p, y = .ref a ∧ RgAt H2 a n bs ∧ RgD P w H2 d xs ∧ xs[i]? = some ((n, bs), p, Value.bool true) ∧
  Q (.bl true) (upd H2 d (.ext (rawRg P w d (xs.eraseIdx i))))
section
variable {X : Cx} {o e : Expr} {apos cpos : Pos} {td ty : TE}
theorem pe_rpop (hu : X.A.units + 3 < cLine) (ho : PE X o td) (he : PE X e ty) (m : M1 X o "pop" apos e cpos) : PE X (.Call (.Attribute o "pop" apos) [e] [] cpos) (tRPop X.prog X.w td ty) := by
  intro pins s σ H Q I h
  refine wpAny_Call_method m.base m.few m.line PySem.F.plainAttrs_dict PySem.F.slot_dict_pop PySem.F.type_dict_pop (thn (ho pins s σ H _ I h) fun u s1 ⟨x, H1, I1, rx, d, xs0, ex, rd, q1⟩ => ?_)
  subst ex
  obtain rfl : u = Value.ref d := rx
  have dd := rgd_of I1 rd
  refine ⟨dd.typeIs, fun b eb => ?_, ?_⟩
  · cases eb
    obtain ⟨ob, _, _, h1, h2, _⟩ := dd
    exact ⟨ob, h1, h2.2.1⟩
  rw [m.trees]
  refine Calls.callWith_builtin rfl (Calls.evalArgs_plain (Calls.spliced_cons (thn (he pins s1 σ H1 _ I1 q1) fun iv s2 ⟨y, H2, I2, ry, a, n, bs, xs, i, p, ey, ra, rd2, hi, q2⟩ => Calls.spliced_nil ?_)))
  subst ey
  cases ry
  have d2 := rgd_of I2 rd2
  have few := rd2.few
  refine wpAny_call_entry PySem.F.slot_dict_pop d2.typeIs PySem.F.entry_dict_pop ?_ (PySem.F.args_dict_pop_2 _ _)
  refine pop_heap (A := X.A.in1) (show X.A.units + 1 + 2 < cLine by omega) (ring_key I2 ra) d2 hi (by rw [sizeLine_eq]; omega) fun h' m' sb => ⟨_, rfl, ?_⟩
  obtain ⟨ob, es, ep, g1, g2, g3, g4, _⟩ := m'
  exact ⟨.bl true, _, d_write I2 (by rw [rd2.at_]; exact True.intro) sb ⟨ob, g1⟩ (raw_ok ⟨ob, es, ep, g1, g2, g3, g4⟩), rfl, q2⟩
end
end L2
end
section
namespace L2
open PySem PySem.Spec PySem.W PyProof.Rows
set_option maxHeartbeats 4000000
set_option maxRecDepth 100000
set_option Elab.async false
set_option linter.unusedVariables false
section
variable {prog : Program} {w : World} {A : Around} {E : Value → Shared → Prop} {s : Shared}
theorem ne_none (d e : Addr) (es : Array DictEntry) (ep ep' : Nat) {R : Fin → Shared → Prop} (hd : (d == sysModules) = false) (he : (e == sysModules) = false) (ho : s.heap.get? d = some { cls := .type "dict", dict := none, data := .dict es ep, slots := #[] })
    (ho' : s.heap.get? e = some { cls := .type "dict", dict := none, data := .dict #[] ep', slots := #[] }) (q : R (.done (.ret (.bool (!es.isEmpty)))) s) : wpAny (model prog w) A (Builtin.«dict.__ne__» ⟨[.ref d, .ref e], []⟩) R E s := by
  have te : s.TypeIs (.ref e) "dict" := ⟨_, ho', rfl⟩
  have td : s.TypeIs (.ref d) "dict" := ⟨_, ho, rfl⟩
  have hi : ∀ {Q : Bool → Shared → Prop}, Q true s → wpAny (model prog w) A (isInstance (.ref e) (.type "dict")) Q E s := fun h => wpAny_isInstance te (by rw [isSubtype_type]; kernel_rfl) h
  obtain ⟨hp, g, dr, tk, os⟩ := s
  unfold Builtin.«dict.__ne__»
  wp_walk using hi
  by_cases c : es.size = 0
  · have e0 : es = #[] := Array.size_eq_zero_iff.mp c
    subst e0
    rw [if_neg (by simp)]
    simp only [Std.Legacy.Range.forIn_eq_forIn_range', Std.Legacy.Range.size, Array.size_empty, Nat.sub_self, Nat.zero_add, Nat.add_sub_cancel, Nat.div_one, Nat.sub_zero, List.range'_zero, List.forIn_nil]
    wp_walk
    exact q
  · have ne : es.isEmpty = false := by
      cases z : es.isEmpty with
      | false => rfl
      | true => exact absurd (by rw [Array.isEmpty_iff.mp z]; rfl) c
    rw [ne] at q
    rw [if_pos (by rw [bne_iff_ne]; exact c)]
    wp_walk
    exact q
end
/-- a dict of rings held against an empty one -/
def rNeRg (P : Program) (w : World) : R2 := fun x y H Q => ∃ (d e : Addr) (xs : List (Rng × Addr × Value)), x = .ref d ∧ y = .ref e ∧ RgD P w H d xs ∧ H e = some (.dK []) ∧ Q (.bl (!xs.isEmpty)) H
section
variable {X : Cx}
theorem op_neRg (hu : X.A.units < cLine) : OpR X (compareOp .NotEq) (rNeRg X.prog X.w) := by
  intro pins s σ H x y v u Q I rx ry h
  obtain ⟨d, e, xs, rfl, rfl, rd, he, q⟩ := h
  cases rx
  cases ry
  obtain ⟨⟨c, dd, da, sl⟩, es, ep, ho, ⟨hx1, hx2, hx3⟩, hd, hes, _⟩ := rgd_of I rd
  simp only at hx1 hx2 hx3 hd
  subst hx1 hx2 hx3 hd
  obtain ⟨_, ne, vs, rel, ⟨c', dd', da', sl'⟩, es', ep', ho', ⟨hy1, hy2, hy3⟩, hd', _, pr, _⟩ := dk_of I.hok he
  simp only at hy1 hy2 hy3 hd'
  subst hy1 hy2 hy3 hd'
  cases rel
  have e0 : es' = #[] := by
    have := pr.length
    exact Array.size_eq_zero_iff.mp (by rw [← Array.length_toList, this]; rfl)
  subst e0
  have em : es.isEmpty = xs.isEmpty := by
    have := size_of_entries hes
    cases xs with
    | nil => exact Array.isEmpty_iff.mpr (Array.size_eq_zero_iff.mp this)
    | cons x r =>
      cases z : es.isEmpty with
      | false => rfl
      | true => rw [Array.isEmpty_iff.mp z] at this; cases this
  have td : s.TypeIs (.ref d) "dict" := ⟨_, ho, rfl⟩
  have te : s.TypeIs (.ref e) "dict" := ⟨_, ho', rfl⟩
  show wpAny _ _ (richCompare .NotEq (.ref d) (.ref e)) _ _ s
  refine wpAny_richCompare_same_room (op := .NotEq) td te PySem.F.slot_dict_ne ?_ hu
  refine wpAny_call_entry PySem.F.slot_dict_ne td PySem.F.entry_dict_ne ?_ (PySem.F.args_dict_ne_2 _ _)
  refine ne_none d e es ep ep' rd.nsm ne ho ho' ⟨_, rfl, (fun z => nomatch z), .bl _, H, I, rfl, ?_⟩
  rw [em]
  exact q
end
end L2
end
section
/-! list(d), whatever the keys of d are. -/
namespace L2
open PySem PySem.Spec PySem.W PyProof.Rows
set_option maxHeartbeats 4000000
set_option maxRecDepth 100000
set_option Elab.async false
set_option linter.unusedVariables false
section
variable {prog : Program} {w : World} {A : Around} {E : Value → Shared → Prop} {s : Shared}
theorem keys_loop {S I d : Addr} {es : Array DictEntry} {ep : Nat} {res : Value} {R : Result → Shared → Prop} {h0 : Heap} (hh : A.handled = none) (hSI : S ≠ I) (hSd : d ≠ S) (hId : d ≠ I) (hn : es.size ≤ sizeLine)
    (hR : ∀ h' tk (acc : Array Value) c, acc.toList = es.toList.map (·.key) → (∀ b o, b ≠ S → b ≠ I → h0.get? b = some o → h'.get? b = some o) → h'.get? S = some { cls := .type "list", dict := none, data := .seq acc c, slots := #[] } → R (.ok (.ret res)) { s with heap := h', toks := tk })
    {h : Heap} {tk c : Nat} (st : IsKI h I d 0 es.size ep) (hd : RawD h d es ep) (old : ∀ b o, b ≠ S → b ≠ I → h0.get? b = some o → h.get? b = some o) (hS : h.get? S = some { cls := .type "list", dict := none, data := .seq #[] c, slots := #[] }) :
    codeAny (model prog w) A (.builtin "list.extend.loop" ⟨[.ref S, .ref I, res], []⟩) R { s with heap := h, toks := tk } := by
  refine fed_loop (n := es.size) (h0 := h0) (T := fun i h vs => IsKI h I d i es.size ep ∧ RawD h d es ep ∧ vs = (es.toList.take i).map (·.key)) (Fn := fun h vs => vs = es.toList.map (·.key)) hSI hn
    (fun i h h' vs t k => ?_) (fun i h tk vs Q E hi lS t q => ?_) (fun h tk vs Q E t q => ?_) (fun h' tk acc c f k e => hR h' tk acc c f k e) es.size 0 h tk c #[] (by omega) ⟨st, hd, rfl⟩ rfl old hS
  · obtain ⟨t1, ⟨o, x1, x2⟩, t3⟩ := t
    exact ⟨k _ _ (Ne.symm hSI) t1, ⟨o, k _ _ hSd x1, x2⟩, t3⟩
  · obtain ⟨t1, t2, t3⟩ := t
    refine ki_item (s := { s with heap := h, toks := tk }) t1 t2 hi fun h' i' sb => ?_
    have kp : ∀ b o, b ≠ I → h.get? b = some o → h'.get? b = some o := fun b o nb e => (sb.2 b nb).trans e
    obtain ⟨o, x1, x2⟩ := t2
    refine q _ h' ⟨i', ⟨o, kp _ _ hId x1, x2⟩, ?_⟩ kp
    have il : i < es.toList.length := by rw [Array.length_toList]; exact hi
    rw [t3, List.take_add_one, List.getElem?_eq_getElem il, List.map_append]
    rfl
  · obtain ⟨t1, t2, t3⟩ := t
    refine ki_end (s := { s with heap := h, toks := tk }) (by simpa using hh) t1 t2 (Nat.le_refl _) fun h' tk' x => q h' tk' ?_ fun b o nb e => x b o nb e
    rw [t3, ← Array.length_toList, List.take_length]
theorem list_raw {d : Addr} {es : Array DictEntry} {ep : Nat} {Q : Value → Shared → Prop} (hh : A.handled = none) (ns : (d == sysModules) = false) (hd : RawD s.heap d es ep) (hn : es.size ≤ sizeLine)
    (q : ∀ h' tk (acc : Array Value) c, acc.toList = es.toList.map (·.key) → (∀ b o, s.heap.get? b = some o → h'.get? b = some o) → h'.get? s.heap.objs.size = some { cls := .type "list", dict := none, data := .seq acc c, slots := #[] } → Q (.ref s.heap.objs.size) { s with heap := h', toks := tk }) :
    wpAny (model prog w) A (call (.type "list") [.ref d]) Q E s := by
  have ld : d < s.heap.objs.size := let ⟨_, e, _⟩ := hd; Heap.lt_size e
  refine callType_codes (Q₁ := fun x s1 => x = .ref s.heap.objs.size ∧ s1 = { s with heap := s.heap.push { cls := .type "list", data := .seq #[] } }) F.called_list (F.typeCall_list_1 _) F.entry_list_init (code_list_new _ ⟨rfl, rfl⟩) fun x s1 hx => ?_
  obtain ⟨rfl, rfl⟩ := hx
  generalize hL : s.heap.objs.size = L at *
  generalize hN : s.heap.push { cls := .type "list", data := .seq #[] } = N
  have new : N.get? L = some { cls := .type "list", data := .seq #[] } := by rw [← hN, ← hL]; exact Heap.get?_push_size _ rfl
  have old : ∀ b o, s.heap.get? b = some o → N.get? b = some o := fun b o e => by rw [← hN]; exact Heap.get?_push_of_some _ e
  have szN : N.objs.size = L + 1 := by rw [← hN, ← hL, Heap.size_push]
  refine ⟨⟨_, new, rfl⟩, F.args_list_init_2 _ _, ?_⟩
  unfold Builtin.«list.__init__»
  wp_walk
  generalize hN2 : N.update L (Obj.mapSeq fun _ => #[]) = N2
  have new2 : ∃ c, N2.get? L = some { cls := .type "list", dict := none, data := .seq #[] c, slots := #[] } := by
    rw [← hN2]
    exact ⟨_, Heap.get?_update_self _ new rfl⟩
  obtain ⟨c2, new2⟩ := new2
  have kp2 : ∀ b o, b ≠ L → N.get? b = some o → N2.get? b = some o := fun b o nb e => by
    rw [← hN2]
    exact (Heap.get?_update_other _ _ (Ne.symm nb)).trans e
  have sz2 : N2.objs.size = L + 1 := by rw [← hN2, Heap.size_update, szN]
  have hd2 : RawD N2 d es ep := let ⟨o, e, x⟩ := hd; ⟨o, kp2 _ _ (Nat.ne_of_lt ld) (old _ _ e), x⟩
  have gT : Shared.TypeIs { s with heap := N2 } (.ref d) "dict" := let ⟨o, e, x⟩ := hd2; ⟨o, e, x.1⟩
  obtain ⟨o, eo, ec, ed⟩ := hd2
  refine wpAny_loadPart (s := { s with heap := N2 }) eo (wpAny_pure ?_)
  rw [ec]
  have n1 : Builtin.List.listSameRef (.ref L) (.ref d) = false := by simp [Builtin.List.listSameRef, Nat.ne_of_gt ld]
  rw [n1, if_neg (by decide)]
  refine wpAny_bind (ki_iter (s := { s with heap := N2 }) ns ⟨o, eo, ec, ed⟩ fun h1 st k => ?_)
  have st' : IsKI h1 (L + 1) d 0 es.size ep := by rw [← sz2]; exact st
  rw [show ({ s with heap := N2 } : Shared).heap.objs.size = L + 1 from sz2]
  refine wpAny_bind (wpAny_holding (kdl_hint_dict ⟨o, k _ _ eo, ec⟩ ?_))
  have fin : ∀ (h : Heap) (c tk : Nat), (∀ b o, b ≠ L → h1.get? b = some o → h.get? b = some o) → h.get? L = some { cls := .type "list", dict := none, data := .seq #[] c, slots := #[] } →
      codeAny (model prog w) A.in1 (.builtin "list.extend.loop" ⟨[.ref L, .ref (L + 1), .none], []⟩) (wants (fun r s₂ => r = Value.none ∧ Q (Value.ref L) s₂) E) { s with heap := h, toks := tk } := fun h c tk kh hS => by
    refine keys_loop (A := A.in1) (s := s) (h0 := s.heap) hh (Nat.ne_of_lt (Nat.lt_succ_self _)) (Nat.ne_of_lt ld) (Nat.ne_of_lt (Nat.lt_succ_of_lt ld)) hn (fun h' tk acc c ha kk e => ⟨rfl, q h' tk acc c ha (fun b o eb => kk b o ?_ ?_ eb) e⟩) (kh _ _ (Nat.succ_ne_self _) st') ⟨o, kh _ _ (Nat.ne_of_lt ld) (k _ _ eo), ec, ed⟩ (fun b o b1 _ e => kh b o b1 (k _ _ (kp2 b o b1 (old _ _ e)))) hS
    · exact Nat.ne_of_lt (hL ▸ Heap.lt_size eb)
    · exact Nat.ne_of_lt (Nat.lt_succ_of_lt (hL ▸ Heap.lt_size eb))
  have new3 := k _ _ new2
  refine wpAny_ite_split (fun _ => ?_) (fun _ => ?_)
  · refine wpAny_bind (wpAny_rule (wpAny_bind ?_))
    refine wpAny_bind (m := updateSeq L (·.push .none)) (wpAny_updateSeq new3 rfl ?_)
    have new4 := Heap.get?_update_self (Obj.mapSeq (·.push Value.none)) new3 rfl
    refine wpAny_updateSeq new4 rfl ?_
    have new5 := Heap.get?_update_self (Obj.mapSeq (·.pop)) new4 rfl
    exact wpAny_pure ⟨plainId_quiet PySem.F.plain_extend_loop _, fin _ _ _ (fun b o nb e => (Heap.get?_update_other _ _ (Ne.symm nb)).trans ((Heap.get?_update_other _ _ (Ne.symm nb)).trans e)) new5⟩
  · exact wpAny_pure ⟨plainId_quiet PySem.F.plain_extend_loop _, fin _ _ _ (fun b o nb e => e) new3⟩
end
end L2
end
section
/-! list(d) of a dict of rings, and dict(l) that makes one. -/
namespace L2
open PySem PySem.Spec PySem.W PyProof.Rows
set_option maxHeartbeats 4000000
set_option maxRecDepth 100000
set_option Elab.async false
set_option linter.unusedVariables false
section
variable {X : Cx}
/-- list(d), d a dict of rings -/
def rListRg (P : Program) (w : World) : List V → Hp → VK → Prop := fun vs H Q => ∃ (d : Addr) (xs : List (Rng × Addr × Value)), vs = [.ref d] ∧ RgD P w H d xs ∧ ∀ l, H l = none → Q (.ref l) (upd H l (.lst (xs.map fun x => .ref x.2.1)))
theorem refs_vals : ∀ (xs : List (Rng × Addr × Value)), Vals (xs.map fun x => V.ref x.2.1) (xs.map fun x => Value.ref x.2.1)
  | [] => .nil
  | x :: r => .cons rfl (refs_vals r)
theorem call_listRg (hc : X.calm = true) : CallR X (.type "list") (rListRg X.prog X.w) := by
  intro pins s σ H vs us Q I r h
  obtain ⟨d, xs, rfl, rd, q⟩ := h
  obtain ⟨u, rfl, rx⟩ := vals1 r
  cases (show u = Value.ref d from rx)
  obtain ⟨o, es, ep, ho, ⟨hx1, _⟩, hd, hes, _⟩ := rgd_of I rd
  have sz := size_of_entries hes
  have few : es.size ≤ sizeLine := Nat.le_trans (Nat.le_trans (Nat.le_of_eq sz) rd.few) (by decide)
  refine list_raw (I.ok.hd hc) rd.nsm ⟨o, ho, hx1, hd⟩ few fun h' tk acc c ha kp e => ?_
  have ea : acc.toList = xs.map fun x => Value.ref x.2.1 := by rw [ha, hes, List.map_map]; rfl
  have ev : acc = (xs.map fun x => Value.ref x.2.1).toArray := by rw [← ea]
  refine ⟨.ref s.heap.objs.size, _, I.laid (a := s.heap.objs.size) (t' := tk) (o := .lst (xs.map fun x => .ref x.2.1)) kp (Nat.le_refl _) ?_, rfl, q _ (I.hok.fresh (Nat.le_refl _))⟩
  refine ⟨?_, _, c, refs_vals xs, ?_⟩
  · rw [List.length_map]
    exact Nat.le_trans rd.few (by decide)
  · rw [← ev]
    exact e
end
end L2
end
section
/-! dict(l), l a list of pairs of a ring and a thing. -/
namespace L2
open PySem PySem.Spec PySem.W PyProof.Rows
set_option maxHeartbeats 4000000
set_option maxRecDepth 100000
set_option Elab.async false
set_option linter.unusedVariables false
/-- all stays but two things -/
def Stay (d it : Addr) (h h' : Heap) : Prop := ∀ b o, b ≠ d → b ≠ it → h.get? b = some o → h'.get? b = some o
theorem Stay.tup {d it : Addr} {h h' : Heap} (S : Stay d it h h') {p : Addr} {xs : Array Value} (n1 : p ≠ d) (n2 : p ≠ it) (t : IsTup h p xs) : IsTup h' p xs := by
  obtain ⟨o, ho, r⟩ := t
  exact ⟨o, S p o n1 n2 ho, r⟩
theorem Stay.lst {d it : Addr} {h h' : Heap} (S : Stay d it h h') {p : Addr} {xs : Array Value} (n1 : p ≠ d) (n2 : p ≠ it) (t : h.IsList p xs) : h'.IsList p xs := by
  obtain ⟨o, ho, r⟩ := t
  exact ⟨o, S p o n1 n2 ho, r⟩
theorem storedH_next {xs : List (Rng × Addr × Value)} {i : Nat} {k : Rng} {a : Addr} {x : Value} (nd : (xs.map (·.1)).Nodup) (e : xs[i]? = some (k, a, x)) : storedH (xs.take i) k a x = xs.take (i + 1) := by
  rw [storedH_new (atKey_none_of_get fun j p ej => ?_), List.take_add_one, e]
  · rfl
  · by_cases c : j < i
    · rw [List.getElem?_take_of_lt c] at ej
      exact absurd (idxH_unique nd ej e) (Nat.ne_of_lt c)
    · rw [List.getElem?_take_eq_none (Nat.le_of_not_lt c)] at ej
      cases ej
section
variable {prog : Program} {w : World} {A : Around} {R : Result → Shared → Prop}
/-- what the loop is given -/
structure RgIn (prog : Program) (w : World) (l it d : Addr) (vs : List Value) (xs : List (Rng × Addr × Value)) (h0 : Heap) : Prop where
  di : d ≠ it
  ld : l ≠ d
  li : l ≠ it
  ls : h0.IsList l vs.toArray
  pr : ∀ (j : Nat) (v : Value), vs[j]? = some v → ∃ (p : Addr) (k : Rng) (a : Addr) (x : Value), v = Value.ref p ∧ p ≠ d ∧ p ≠ it ∧ IsTup h0 p #[.ref a, x] ∧ xs[j]? = some (k, a, x) ∧ ∀ h, Stay d it h0 h → RgKey (prog := prog) (w := w) h k a
theorem rloop (hh : A.handled = none) (hu : A.units + 3 < cLine) {l it d : Addr} {vs : List Value} {xs : List (Rng × Addr × Value)} (hl : vs.length = xs.length) (few : xs.length ≤ sizeLine) (nd : (xs.map (·.1)).Nodup) (h0 : Heap) (G : RgIn prog w l it d vs xs h0) (s00 : Shared)
    (q : ∀ h' tk, h'.DictOfH (ringKind (prog := prog) (w := w)) d xs → Stay d it h0 h' → R (.ok (.ret .none)) { s00 with heap := h', toks := tk }) :
    ∀ (n i : Nat) (s : Shared), i + n = vs.length → (∀ h tk, { s with heap := h, toks := tk } = { s00 with heap := h, toks := tk }) → s.heap.IsListIter it l i → s.heap.DictOfH (ringKind (prog := prog) (w := w)) d (xs.take i) → Stay d it h0 s.heap →
      codeAny (model prog w) A (.builtin "dict.update.loop" ⟨[.ref d, .ref it, rawInt i, .none], []⟩) R s
  | 0, i, s, e, es, po, dt, S => by
    refine codeAny_builtin dl_entry ?_
    rw [Around.under_plainId dl_plain _]
    show wpAny _ A.in1 (pyNext (.ref it) >>= _) _ _ _
    have hi : i = vs.length := by omega
    refine wpAny_bind (wpAny_pyNext_list_end hh po (S.lst G.ld G.li G.ls) (by simp; omega) fun h' eb => ?_)
    show wpAny _ _ (Builtin.Dict.addKeywords d [] >>= _) _ _ _
    refine wpAny_bind (wpAny_pure (wpAny_pure ?_))
    show R (.ok (.ret .none)) { s with heap := h', toks := s.toks }
    rw [es]
    refine q h' s.toks ?_ fun b o n1 n2 hb => eb b o n2 (S b o n1 n2 hb)
    rw [List.take_of_length_le (by omega)] at dt
    obtain ⟨o, es, ep, ho, x1, x2, x3, x4, x5⟩ := dt
    refine ⟨o, es, ep, eb d o G.di ho, x1, x2, x3, fun x hx => ?_, x5⟩
    obtain ⟨j, hj⟩ := List.getElem?_of_mem hx
    have jl : j < vs.length := by rw [hl]; exact (List.getElem?_eq_some_iff.mp hj).1
    obtain ⟨p, k, a, y, _, _, _, _, ek, hk⟩ := G.pr j vs[j] (List.getElem?_eq_getElem jl)
    rw [hj] at ek
    cases ek
    exact hk h' fun b o n1 n2 hb => eb b o n2 (S b o n1 n2 hb)
  | n + 1, i, s, e, es, po, dt, S => by
    refine codeAny_builtin dl_entry ?_
    rw [Around.under_plainId dl_plain _]
    show wpAny _ A.in1 (pyNext (.ref it) >>= _) _ _ _
    have hi : i < vs.length := by omega
    have hv : vs[i]? = some vs[i] := List.getElem?_eq_getElem hi
    refine wpAny_bind (wpAny_pyNext_list_item po (S.lst G.ld G.li G.ls) (x := vs[i]) (by simp) fun h' st' sb => ?_)
    have S' : Stay d it h0 h' := fun b o n1 n2 hb => sb.extBut _ _ n2 (S b o n1 n2 hb)
    obtain ⟨p, k, a, x, ev, p1, p2, tp, ek, hk⟩ := G.pr i vs[i] hv
    rw [ev]
    show wpAny _ _ (holding [Value.ref p] _ >>= _) _ _ _
    refine wpAny_bind (wpAny_holding (wpAny_bind (wpAny_tryCatch ?_)))
    have tp' : IsTup h' p #[.ref a, x] := S'.tup p1 p2 tp
    have dt' : h'.DictOfH (ringKind (prog := prog) (w := w)) d (xs.take i) := by
      obtain ⟨o, es, ep, ho, x1, x2, x3, x4, x5⟩ := dt
      refine ⟨o, es, ep, sb.extBut _ _ G.di ho, x1, x2, x3, fun x hx => ?_, x5⟩
      obtain ⟨j, hj⟩ := List.getElem?_of_mem (List.mem_of_mem_take hx)
      have jl : j < vs.length := by rw [hl]; exact (List.getElem?_eq_some_iff.mp hj).1
      obtain ⟨p, k, a, y, _, _, _, _, ek, hk⟩ := G.pr j vs[j] (List.getElem?_eq_getElem jl)
      rw [hj] at ek
      cases ek
      exact hk h' S'
    unfold Builtin.Dict.pairItems
    refine wpAny_bind (wpAny_typeOf (T := "tuple") tp'.typeIs ?_)
    rw [if_pos (by rfl)]
    obtain ⟨o, ho, hc, m, hd⟩ := id tp'
    refine wpAny_bind (wpAny_seqItems ho hd (wpAny_pure ?_))
    show wpAny _ _ (holding [Value.ref a, x] (dictSet d (.ref a) x)) _ _ _
    refine wpAny_holding (wpAny_dictSet_heap (knd := ringKind (prog := prog) (w := w)) (k := k) (show A.units + 1 + 2 < cLine by omega) (hk h' S') dt' (fun h2 dt2 sb2 => ?_) (by rw [List.length_take]; omega))
    rw [storedH_next nd ek] at dt2
    refine wpAny_pure ⟨plainId_quiet dl_plain _, ?_⟩
    have := rloop hh hu hl few nd h0 G s00 q n (i + 1) { s with heap := h2, toks := s.toks + (k.2.length + 3) } (by omega) (fun h tk => es h tk) (st'.extBut sb2.extBut (Ne.symm G.di)) dt2 (fun b o n1 n2 hb => sb2.extBut _ _ n1 (S' b o n1 n2 hb))
    rw [show ((i + 1 : Nat) : Int) = (i : Int) + 1 by omega] at this
    exact this
end
end L2
end
section
/-! dict(l) of rings, in the layer. -/
namespace L2
open PySem PySem.Spec PySem.W PyProof.Rows
set_option maxHeartbeats 4000000
set_option maxRecDepth 100000
set_option Elab.async false
set_option linter.unusedVariables false
section
variable {X : Cx}
/-- rings at their places, each with True -/
def withT (ks : List (Rng × Addr)) : List (Rng × Addr × Value) := ks.map fun k => (k.1, k.2, Value.bool true)
/-- dict(l), l a list of pairs of a ring and True, the rings unlike -/
def rDictRg (P : Program) (w : World) : List V → Hp → VK → Prop := fun vs H Q => ∃ (l : Addr) (ps : List V) (ks : List (Rng × Addr)), vs = [.ref l] ∧ H l = some (.lst ps) ∧ ps.length = ks.length ∧ ks.length ≤ 1000 ∧ (ks.map (·.1)).Nodup ∧
  (∀ (j : Nat) (v : V), ps[j]? = some v → ∃ (p : Addr) (k : Rng) (a : Addr), v = .ref p ∧ H p = some (.tup [.ref a, .bl true]) ∧ ks[j]? = some (k, a) ∧ RgAt H a k.1 k.2) ∧
  ∀ d, H d = none → RgD P w (upd H d (.ext (rawRg P w d (withT ks)))) d (withT ks) → Q (.ref d) (upd H d (.ext (rawRg P w d (withT ks))))
theorem withT_len (ks : List (Rng × Addr)) : (withT ks).length = ks.length := List.length_map ..
theorem withT_keys (ks : List (Rng × Addr)) : (withT ks).map (·.1) = ks.map (·.1) := by unfold withT; rw [List.map_map]; rfl
theorem vals_at : ∀ {ps : List V} {its : List Value}, Vals ps its → ∀ (j : Nat) (v : Value), its[j]? = some v → ∃ x, ps[j]? = some x ∧ RelV x v
  | _, _, .nil, j, v, h => by cases h
  | _, _, .cons r rs, 0, v, h => by cases h; exact ⟨_, rfl, r⟩
  | _, _, .cons r rs, j + 1, v, h => vals_at rs j v h
theorem call_dictRg (hc : X.calm = true) (hu : X.A.units + 4 < cLine) : CallR X (.type "dict") (rDictRg X.prog X.w) := by
  intro pins s σ H vs us Q I r h
  obtain ⟨l, ps, ks, rfl, hl, hlen, few, nd, hp, q⟩ := h
  obtain ⟨u, rfl, rx⟩ := vals1 r
  cases (show u = Value.ref l from rx)
  obtain ⟨hz, its, n, rv, hls⟩ := (show ObjOk X.prog X.w H s.heap l (.lst ps) from I.hok l _ hl)
  have ilen : ps.length = its.length := rv.length
  have hnew : (s.heap.push { cls := .type "dict", data := .dict #[] }).DictOfH (ringKind (prog := X.prog) (w := X.w)) s.heap.objs.size [] := Heap.DictOfH.new s.heap
  have hls' : (s.heap.push { cls := .type "dict", data := .dict #[] }).get? l = some { cls := .type "list", dict := none, data := .seq its.toArray n, slots := #[] } := Heap.get?_push_of_some _ hls
  refine callType_codes F.kt_called_dict (F.kt_typeCall_dict_1 _) F.entry_dict_init (kt_code_dict_new (Q₁ := fun v z => v = .ref s.heap.objs.size ∧ z = { s with heap := s.heap.push { cls := .type "dict", data := .dict #[] } }) _ ⟨rfl, rfl⟩)
    fun v z ⟨ev, ez⟩ => ev ▸ ez ▸ ⟨hnew.typeIs, F.args_dict_init_2 _ _, di_list (I.ok.hd hc) hnew.typeIs hls' fun h1 tk1 kp1 => ?_⟩
  have old : ∀ b o, s.heap.get? b = some o → (h1.push { cls := .type "list_iterator", data := .fields #[.ref l, .int 0 0] }).get? b = some o := fun b o e => Heap.get?_push_of_some _ (kp1 _ _ (Heap.get?_push_of_some _ e))
  have lt1 : ∀ b o, s.heap.get? b = some o → b ≠ s.heap.objs.size ∧ b ≠ h1.objs.size := fun b o e => ⟨Nat.ne_of_lt (Heap.lt_size e), Nat.ne_of_lt (Heap.lt_size (kp1 _ _ (Heap.get?_push_of_some _ e)))⟩
  have big : s.heap.objs.size ≠ h1.objs.size := by
    obtain ⟨o, es, ep, ho, _⟩ := id hnew
    exact Nat.ne_of_lt (Heap.lt_size (kp1 _ _ ho))
  have bigS : sysModules < s.heap.objs.size := Nat.lt_trans (by decide) (I.mod.glob.keeps I.bk).lt
  have nsm : (s.heap.objs.size == sysModules) = false := beq_eq_false_iff_ne.mpr (Ne.symm (Nat.ne_of_lt bigS))
  have nd' : ((withT ks).map (·.1)).Nodup := by rw [withT_keys]; exact nd
  have G : RgIn X.prog X.w l h1.objs.size s.heap.objs.size its (withT ks) s.heap := by
    refine ⟨big, (lt1 _ _ hls).1, (lt1 _ _ hls).2, ⟨_, hls, rfl, n, rfl⟩, fun j v hj => ?_⟩
    obtain ⟨x, hx, rx⟩ := vals_at rv j v hj
    obtain ⟨p, k, a, rfl, hpp, hk, ra⟩ := hp j x hx
    cases (show v = Value.ref p from rx)
    obtain ⟨_, its2, rv2, tp⟩ := (show ObjOk X.prog X.w H s.heap p (.tup [.ref a, .bl true]) from I.hok p _ hpp)
    obtain ⟨key, x', rfl, rk, rb⟩ := vals2 rv2
    cases (show key = Value.ref a from rk)
    cases (show x' = Value.bool true from rb)
    obtain ⟨o, ho, r⟩ := id tp
    refine ⟨p, k, a, .bool true, rfl, (lt1 _ _ ho).1, (lt1 _ _ ho).2, tp, ?_, fun h' S => ?_⟩
    · unfold withT
      rw [List.getElem?_map, hk]
      rfl
    · obtain ⟨rr, o2, m, t, e1, e2, e3, o3, i3, m3, f1, f2, f3, f4⟩ := ring_key I ra
      exact ⟨rr, o2, m, t, S _ _ (lt1 _ _ e1).1 (lt1 _ _ e1).2 e1, e2, e3, o3, i3, m3, S _ _ (lt1 _ _ f1).1 (lt1 _ _ f1).2 f1, f2, f3, f4⟩
  refine rloop (A := X.A.in1) (I.ok.hd hc) (show X.A.units + 1 + 3 < cLine by omega) (by rw [withT_len]; omega) (by rw [withT_len]; exact Nat.le_trans few (by decide)) nd' s.heap G s (fun h' tk hd' S => ?_) its.length 0 _ (by omega) (fun h tk => rfl) ⟨_, Heap.get?_push_size _ rfl, rfl, rfl⟩ ?_ (fun b o _ _ hb => old b o hb)
  · refine ⟨rfl, .ref s.heap.objs.size, _, I.laid (a := s.heap.objs.size) (t' := tk) (o := .ext (rawRg X.prog X.w s.heap.objs.size (withT ks))) (fun b o e => S b o (lt1 _ _ e).1 (lt1 _ _ e).2 e) (Nat.le_refl _) ?_, rfl, q _ (I.hok.fresh (Nat.le_refl _)) ?_⟩
    · obtain ⟨o, es, ep, g1, g2, g3, g4, _⟩ := hd'
      exact raw_ok ⟨o, es, ep, g1, g2, g3, g4⟩
    · refine ⟨upd_same, by rw [withT_len]; exact few, nsm, nd', fun x hx => ?_⟩
      obtain ⟨k, hk, rfl⟩ := List.mem_map.mp hx
      obtain ⟨j, hj⟩ := List.getElem?_of_mem hk
      have jl : j < ps.length := by rw [hlen]; exact (List.getElem?_eq_some_iff.mp hj).1
      obtain ⟨p, k', a, _, _, ek, ra⟩ := hp j ps[j] (List.getElem?_eq_getElem jl)
      rw [hj] at ek
      cases ek
      obtain ⟨rr, a1, a2⟩ := ra
      have fr := I.hok.fresh (Nat.le_refl s.heap.objs.size)
      exact ⟨rr, by rw [upd_ne (fun z => by have z' : a = _ := z; rw [z', fr] at a1; cases a1)]; exact a1, by rw [upd_ne (fun z => by rw [z, fr] at a2; cases a2)]; exact a2⟩
  · obtain ⟨o, es, ep, ho, x1, x2, x3, x4, x5⟩ := id hnew
    exact ⟨o, es, ep, Heap.get?_push_of_some _ (kp1 _ _ ho), x1, x2, x3, fun x hx => (by cases hx), x5⟩
end
end L2
end
section
namespace K64
open PySem PySem.Spec PyProof.Rows L2
set_option maxHeartbeats 4000000
set_option Elab.async false
set_option linter.unusedVariables false
def top (i : Nat) : Stmt := PySem.Challenge.pw_boxballs_k64_rounds_of_all_rings.main.body.getD i (.Pass ⟨0, 0, 0, 0⟩)
abbrev s_is_number : Stmt := top 8
theorem sc_is_number : FnScope ["thing", "least", "greatest"] ["thing", "least", "greatest"] (defScope s_is_number) := ⟨rfl, rfl, rfl, by decide +kernel, rfl, by decide +kernel, by decide +kernel⟩
abbrev s_need_number : Stmt := top 9
theorem sc_need_number : FnScope ["thing", "least", "greatest"] ["thing", "least", "greatest"] (defScope s_need_number) := ⟨rfl, rfl, rfl, by decide +kernel, rfl, by decide +kernel, by decide +kernel⟩
abbrev s_carry : Stmt := top 10
theorem sc_carry : FnScope ["row", "size", "behind", "load", "taken", "box", "place", "laid"] ["row", "size"] (defScope s_carry) := ⟨rfl, rfl, rfl, by decide +kernel, rfl, by decide +kernel, by decide +kernel⟩
abbrev s_ways : Stmt := top 11
theorem sc_ways : FnScope ["boxes", "balls", "laid", "turn"] ["boxes", "balls"] (defScope s_ways) := ⟨rfl, rfl, rfl, by decide +kernel, rfl, by decide +kernel, by decide +kernel⟩
abbrev s_laid_twice : Stmt := top 14
theorem sc_laid_twice : FnScope ["ring", "many", "balls"] ["ring"] (defScope s_laid_twice) := ⟨rfl, rfl, rfl, by decide +kernel, rfl, by decide +kernel, by decide +kernel⟩
abbrev s_ring_carried : Stmt := top 15
theorem sc_ring_carried : FnScope ["ring", "many", "balls", "twice", "behind", "taken"] ["ring"] (defScope s_ring_carried) := ⟨rfl, rfl, rfl, by decide +kernel, rfl, by decide +kernel, by decide +kernel⟩
abbrev s_round_of : Stmt := top 16
theorem sc_round_of : FnScope ["ring", "steps", "there"] ["ring"] (defScope s_round_of) := ⟨rfl, rfl, rfl, by decide +kernel, rfl, by decide +kernel, by decide +kernel⟩
abbrev s_rounds : Stmt := top 17
theorem sc_rounds : FnScope ["many", "balls", "found", "way", "steps"] ["many", "balls"] (defScope s_rounds) := ⟨rfl, rfl, rfl, by decide +kernel, rfl, by decide +kernel, by decide +kernel⟩
abbrev s_L_cell_at : Stmt := top 19
theorem sc_L_cell_at : FnScope ["_law_script", "_law_k"] ["_law_script", "_law_k"] (defScope s_L_cell_at) := ⟨rfl, rfl, rfl, by decide +kernel, rfl, by decide +kernel, by decide +kernel⟩
abbrev s_L_state : Stmt := top 20
theorem sc_L_state : FnScope ["_law_script", "_law_k", "_law_cell"] ["_law_script", "_law_k"] (defScope s_L_state) := ⟨rfl, rfl, rfl, by decide +kernel, rfl, by decide +kernel, by decide +kernel⟩
abbrev s_L_take : Stmt := top 21
theorem sc_L_take : FnScope ["_law_state_here", "_law_many", "_law_found", "_law_mixed"] ["_law_state_here", "_law_many"] (defScope s_L_take) := ⟨rfl, rfl, rfl, by decide +kernel, rfl, by decide +kernel, by decide +kernel⟩
abbrev s_L_stepped : Stmt := top 22
theorem sc_L_stepped : FnScope ["_law_ring", "_law_way", "_law_many", "_law_balls", "_law_found", "_law_ball", "_law_here", "_law_some"] ["_law_ring", "_law_way"] (defScope s_L_stepped) := ⟨rfl, rfl, rfl, by decide +kernel, rfl, by decide +kernel, by decide +kernel⟩
abbrev s_L_whole : Stmt := top 23
theorem sc_L_whole : FnScope ["_law_thing"] ["_law_thing"] (defScope s_L_whole) := ⟨rfl, rfl, rfl, by decide +kernel, rfl, by decide +kernel, by decide +kernel⟩
abbrev s_L_same : Stmt := top 24
theorem sc_L_same : FnScope ["_law_found", "_law_due_here"] ["_law_found", "_law_due_here"] (defScope s_L_same) := ⟨rfl, rfl, rfl, by decide +kernel, rfl, by decide +kernel, by decide +kernel⟩
abbrev s_L_refused : Stmt := top 25
theorem sc_L_refused : FnScope ["_law_call", "_law_error", "e", "_law_sorts"] ["_law_call"] (defScope s_L_refused) := ⟨rfl, rfl, rfl, by decide +kernel, rfl, by decide +kernel, by decide +kernel⟩
abbrev s_L_due : Stmt := top 26
theorem sc_L_due : FnScope ["_law_many", "_law_few", "_law_rings", "_law_box", "_law_fresh", "_law_counts", "_law_here", "_law_steps"] ["_law_many", "_law_few"] (defScope s_L_due) := ⟨rfl, rfl, rfl, by decide +kernel, rfl, by decide +kernel, by decide +kernel⟩
abbrev s_law : Stmt := top 27
theorem sc_law : FnScope ["_law_script", "_law_k", "_law_state_here", "_law_many", "_law_few", "_law_due_here", "_law_turn", "_law_found", "_law_odd", "_law_one", "_law_other", "_law_right"] ["_law_script"] (defScope s_law) := ⟨rfl, rfl, rfl, by decide +kernel, rfl, by decide +kernel, by decide +kernel⟩
/-! ### the draws -/
def Dok (x : Int) (b : Bool) : Prop := 0 ≤ x ∧ (b = false → x < 2147483647)
def StAt (H : Hp) (a : Addr) (x : Int) (b : Bool) : Prop := H a = some (.lst [.int x, .bl b]) ∧ Dok x b
/-- all but what stands at a is as it was -/
def Keep (a : Addr) (H H' : Hp) : Prop := ∀ c o, c ≠ a → H c = some o → H' c = some o
theorem at_ints {ns : List Int} {k : Int} (h0 : 0 ≤ k) (h1 : k < (ns.length : Int)) : ∃ v : Int, atI (ns.map V.int) k = some (.int v) ∧ ns[k.toNat]? = some v := by
  have hk : k.toNat < ns.length := by omega
  have ek : ((k.toNat : Nat) : Int) = k := by omega
  refine ⟨ns[k.toNat], ?_, List.getElem?_eq_getElem hk⟩
  have q : atI (ns.map V.int) ((k.toNat : Nat) : Int) = some (.int ns[k.toNat]) := atI_nat (by rw [List.getElem?_map, List.getElem?_eq_getElem hk] <;> rfl)
  rw [ek] at q
  exact q
def spCell (K : PySem.W.Frag) : Sp := fun vs H Q _ => ∃ (a : Addr) (ns : List Int) (k : Int), vs = [.ref a, .int k] ∧ SqL K H a (ns.map V.int) ∧ 0 ≤ k ∧ ∀ c : Int, Q (.int c) H
def spState (K : PySem.W.Frag) : Sp := fun vs H Q _ => ∃ (a : Addr) (ns : List Int) (k : Int), vs = [.ref a, .int k] ∧ SqL K H a (ns.map V.int) ∧ 0 ≤ k ∧
  ∀ (r : Addr) (x : Int) (b : Bool), H r = none → Dok x b → Q (.ref r) (upd H r (.lst [.int x, .bl b]))
def spTake (K : PySem.W.Frag) : Sp := fun vs H Q _ => ∃ (a : Addr) (x : Int) (b : Bool) (m : Int), vs = [.ref a, .int m] ∧ StAt H a x b ∧ 0 < m ∧ m < 1073741824 ∧
  ∀ (v x' : Int), 0 ≤ v → v < m → Dok x' b → Q (.int v) (upd H a (.lst [.int x', .bl b]))
section
variable {P : Program} {w : World} {K : PySem.W.Frag} {mg : Str → Option Value} {base : Heap}
set_option maxRecDepth 100000 in
theorem ok_L_cell_at {f : Addr} {fd : FuncData} (F : Fun K "_law_cell_at" "_law_cell_at" s_L_cell_at f fd) (nb : Nb mg)   :
    FnOk P w K mg base CX0 1 f fd ["_law_script", "_law_k"] (spCell K) := by
  have nd := sc_L_cell_at.nd
  refine F.ok (k := 0) sc_L_cell_at (fun vs H Q E h => ?_) (fun cdv A outer s H vs Q E hr h => ?_)
  · obtain ⟨a, ns, k, rfl, _⟩ := h
    rfl
  obtain ⟨a, ns, k, rfl, hS, h0, q⟩ := h
  refine ⟨_, (pss_cons (ps_if (pt_cmpR op_lt (pv 1) (pe_callB call_len_seq rfl nb.len PySem.boot_len (pa_cons (pv 0) pa_nil)) (nomark _))
   (pss_one (ps_ret (pe_ix ix_list (pv 0) (pv 1) (fun _ _ => rfl))))
   pss_nil)
  (pss_one (ps_ret pe_int))), ?_⟩
  refine ⟨_, rfl, _, rfl, a, _, rfl, .inl hS, _, _, rfl, rfl, _, rfl, ?_⟩
  refine ite2 (fun c => ?_) (fun c => ?_)
  · have c' : k < (((ns.map V.int).length : Nat) : Int) := of_decide_eq_true c
    rw [List.length_map] at c'
    obtain ⟨v, q1, _⟩ := at_ints h0 c'
    exact ⟨_, rfl, _, rfl, a, _, _, _, rfl, rfl, hS, q1, q _⟩
  · exact q 0
set_option maxRecDepth 100000 in
theorem ok_L_state {f : Addr} {fd : FuncData} (F : Fun K "_law_state" "_law_state" s_L_state f fd) (nb : Nb mg) (h_L_cell_at : Has P w K mg base 1 "_law_cell_at" ["_law_script", "_law_k"] (spCell K))  :
    FnOk P w K mg base CX0 2 f fd ["_law_script", "_law_k"] (spState K) := by
  have nd := sc_L_state.nd
  refine F.ok (k := 1) sc_L_state (fun vs H Q E h => ?_) (fun cdv A outer s H vs Q E hr h => ?_)
  · obtain ⟨a, ns, k, rfl, _⟩ := h
    rfl
  obtain ⟨a, ns, k, rfl, hS, h0, q⟩ := h
  refine ⟨_, (pss_cons (ps_set (i := 2) nd rfl (Or.inl rfl) (pe_def h_L_cell_at hr (pa_cons (pv 0) (pa_cons (pv 1) pa_nil))))
  (pss_cons (ps_if (pt_cmpR op_ge (pv 2) (pe_op op_pow pe_int pe_int) (nomark _))
   (pss_one (ps_ret (pe_lst (pa_cons (pe_op op_sub (pv 2) (pe_op op_pow pe_int pe_int)) (pa_cons pe_bl pa_nil)))))
   pss_nil)
  (pss_one (ps_ret (pe_lst (pa_cons (pe_op op_mod (pv 2) pe_int) (pa_cons pe_bl pa_nil))))))), ?_⟩
  refine ⟨_, rfl, _, rfl, a, ns, k, rfl, hS, h0, fun c => ?_⟩
  refine ⟨_, rfl, _, _, rfl, rfl, ⟨by decide, by decide, by decide⟩, _, _, rfl, rfl, _, rfl, ?_⟩
  refine ite2 (fun z => ?_) (fun z => ?_)
  · have z' : (10 : Int) ^ 18 ≤ c := of_decide_eq_true z
    refine ⟨_, rfl, _, _, rfl, rfl, ⟨by decide, by decide, by decide⟩, _, _, rfl, rfl, (by show 2 ≤ sizeLine; decide), fun r hr' => q r _ true hr' ⟨?_, fun e => by cases e⟩⟩
    show (0 : Int) ≤ c - 10 ^ 18
    omega
  · refine ⟨_, rfl, _, _, rfl, rfl, (by show (0 : Int) < 2147483647; decide), (by show 2 ≤ sizeLine; decide), fun r hr' => q r _ false hr' ⟨?_, fun _ => ?_⟩⟩
    · exact Int.emod_nonneg _ (by decide)
    · exact Int.emod_lt_of_pos _ (by decide)
set_option maxRecDepth 100000 in
theorem ok_L_take {f : Addr} {fd : FuncData} (F : Fun K "_law_take" "_law_take" s_L_take f fd) (nb : Nb mg)   :
    FnOk P w K mg base CX0 1 f fd ["_law_state_here", "_law_many"] (spTake K) := by
  have nd := sc_L_take.nd
  refine F.ok (k := 0) sc_L_take (fun vs H Q E h => ?_) (fun cdv A outer s H vs Q E hr h => ?_)
  · obtain ⟨a, x, b, m, rfl, _⟩ := h
    rfl
  obtain ⟨a, x, b, m, rfl, ⟨hS, d0, d1⟩, m0, m1, q⟩ := h
  refine ⟨_, (pss_cons (ps_if (pt_truth (pe_ix ix_list (pv 0) pe_int (fun _ _ => rfl)) (fun _ => rfl))
   (pss_cons (ps_set (i := 2) nd rfl (Or.inl rfl) (pe_op op_mod (pe_ix ix_list (pv 0) pe_int (fun _ _ => rfl)) (pv 1)))
  (pss_cons (ps_asg (pe_op op_fdiv (pe_ix ix_list (pv 0) pe_int (fun _ _ => rfl)) (pv 1)) (pg_sub (pv 0) pe_int set_list))
  (pss_one (ps_ret (pv 2)))))
   pss_nil)
  (pss_cons (ps_asg (pe_op op_mod (pe_op op_add (pe_op op_mul (pe_ix ix_list (pv 0) pe_int (fun _ _ => rfl)) pe_int) pe_int) pe_int) (pg_sub (pv 0) pe_int set_list))
  (pss_cons (ps_set (i := 3) nd rfl (Or.inl rfl) (pe_op op_mod (pe_op op_add (pe_op op_add (pe_op op_mul (pe_ix ix_list (pv 0) pe_int (fun _ _ => rfl)) (pe_ix ix_list (pv 0) pe_int (fun _ _ => rfl))) (pe_op op_mul pe_int (pe_ix ix_list (pv 0) pe_int (fun _ _ => rfl)))) pe_int) pe_int))
  (pss_cons (ps_set (i := 3) nd rfl (Or.inl rfl) (pe_op op_mod (pe_op op_add (pe_op op_mul (pv 3) (pv 3)) (pe_op op_mul pe_int (pv 3))) pe_int))
  (pss_one (ps_ret (pe_op op_mod (pe_op op_fdiv (pv 3) pe_int) (pv 1)))))))), ?_⟩
  refine ⟨_, rfl, a, _, _, _, rfl, rfl, SqL.of hS, rfl, b, rfl, ?_⟩
  cases b with
  | true =>
    refine iteT ?_
    refine ⟨_, rfl, a, _, _, _, rfl, rfl, SqL.of hS, rfl, _, rfl, _, _, rfl, rfl, m0, ?_⟩
    refine ⟨_, rfl, a, _, _, _, rfl, rfl, SqL.of hS, rfl, _, rfl, _, _, rfl, rfl, ⟨m0, m1⟩, ?_⟩
    refine ⟨_, rfl, a, _, _, 0, rfl, rfl, hS, rfl, ?_⟩
    refine ⟨_, rfl, ?_⟩
    exact q _ _ (Int.emod_nonneg _ (by omega)) (Int.emod_lt_of_pos _ m0) ⟨Int.ediv_nonneg d0 (by omega), fun e => by cases e⟩
  | false =>
    refine iteF ?_
    have d2 := d1 rfl
    refine ⟨_, rfl, a, _, _, _, rfl, rfl, SqL.of hS, rfl, _, _, rfl, rfl, .inl ⟨by omega, by omega⟩, _, _, rfl, rfl, _, _, rfl, rfl, (by show (0 : Int) < 2147483647; decide), ?_⟩
    refine ⟨_, rfl, a, _, _, 0, rfl, rfl, hS, rfl, ?_⟩
    have e0 : (0 : Int) ≤ (x * 48271 + 29) % 2147483647 := Int.emod_nonneg _ (by decide)
    have e1 : (x * 48271 + 29) % 2147483647 < 2147483647 := Int.emod_lt_of_pos _ (by decide)
    refine ⟨_, rfl, a, _, _, _, rfl, rfl, SqL.of upd_same, rfl, _, rfl, a, _, _, _, rfl, rfl, SqL.of upd_same, rfl, _, _, rfl, rfl, .inl ⟨by omega, by omega⟩, _, rfl, a, _, _, _, rfl, rfl, SqL.of upd_same, rfl, _, _, rfl, rfl, .inl ⟨by decide, by decide⟩, _, _, rfl, rfl, _, _, rfl, rfl, _, _, rfl, rfl, (by show (0 : Int) < 2147483629; decide), ?_⟩
    refine ⟨_, rfl, _, rfl, _, _, rfl, rfl, .inl ⟨?_, ?_⟩, _, rfl, _, _, rfl, rfl, .inl ⟨by decide, by decide⟩, _, _, rfl, rfl, _, _, rfl, rfl, (by show (0 : Int) < 2147483587; decide), ?_⟩
    · exact Int.lt_of_lt_of_le (by decide) (Int.emod_nonneg _ (by decide))
    · exact Int.lt_trans (Int.emod_lt_of_pos _ (by decide)) (by decide)
    refine ⟨_, rfl, _, _, rfl, rfl, ⟨by decide, by decide⟩, _, rfl, _, _, rfl, rfl, m0, ?_⟩
    exact q _ _ (Int.emod_nonneg _ (by omega)) (Int.emod_lt_of_pos _ m0) ⟨e0, fun _ => e1⟩
end
end K64
end
section
namespace K64
open PySem PySem.Spec PyProof.Rows L2
set_option maxHeartbeats 4000000
set_option Elab.async false
set_option linter.unusedVariables false
/-! ### numbers and rows -/
def numB (lo hi : Int) : V → Bool
  | .int i => decide (lo ≤ i) && decide (i ≤ hi)
  | _ => false
theorem kn_cases {H : Hp} {v : V} {T : String} (h : Kn H v T) : (T = "bool" ∧ ∃ b, v = .bl b) ∨ (T = "int" ∧ ∃ i, v = .int i) ∨ (subT T "bool" = false ∧ subT T "int" = false ∧ ∀ lo hi, numB lo hi v = false) := by
  cases h with
  | bl b => exact .inl ⟨rfl, b, rfl⟩
  | int i => exact .inr (.inl ⟨rfl, i, rfl⟩)
  | _ => exact .inr (.inr ⟨by decide, by decide, fun _ _ => rfl⟩)
def spNum : Sp := fun vs H Q _ => ∃ (v : V) (T : String) (lo hi : Int), vs = [v, .int lo, .int hi] ∧ Kn H v T ∧ Q (.bl (numB lo hi v)) H
theorem getD_of {ns : List Int} {i : Nat} {v : Int} (h : (ns.map V.int)[i]? = some (.int v)) : ns.getD i 0 = v := by
  rw [List.getElem?_map] at h
  cases e : ns[i]? with
  | none => rw [e] at h; cases h
  | some z =>
    rw [e] at h
    have : z = v := by simpa using h
    rw [List.getD_eq_getElem?_getD, e, this]
    rfl
theorem int_at {ns : List Int} {i : Nat} {x : V} (h : (ns.map V.int)[i]? = some x) : ∃ v, x = .int v ∧ ns.getD i 0 = v := by
  have h' := h
  rw [List.getElem?_map] at h
  cases e : ns[i]? with
  | none => rw [e] at h; cases h
  | some z =>
    rw [e] at h
    have : x = .int z := by simpa using h.symm
    subst this
    exact ⟨z, rfl, getD_of h'⟩
section
variable {P : Program} {w : World} {K : PySem.W.Frag} {mg : Str → Option Value} {base : Heap}
set_option maxRecDepth 100000 in
theorem ok_is_number {f : Addr} {fd : FuncData} (F : Fun K "is_number" "is_number" s_is_number f fd) (nb : Nb mg)   :
    FnOk P w K mg base CX0 1 f fd ["thing", "least", "greatest"] spNum := by
  have nd := sc_is_number.nd
  refine F.ok (k := 0) sc_is_number (fun vs H Q E h => ?_) (fun cdv A outer s H vs Q E hr h => ?_)
  · obtain ⟨v, T, lo, hi, rfl, _⟩ := h
    rfl
  obtain ⟨v, T, lo, hi, rfl, hk, q⟩ := h
  refine ⟨_, (pss_cons (ps_if (PW.pt (pw_or (pt_truth (pe_callB call_isi rfl nb.isi boot_isinstance (pa_cons (pv 0) (pa_cons (pe_ty nb.bool boot_bool) pa_nil))) (fun _ => rfl)) (pw_or1 (pt_not (pt_truth (pe_callB call_isi rfl nb.isi boot_isinstance (pa_cons (pv 0) (pa_cons (pe_ty nb.int boot_int) pa_nil))) (fun _ => rfl))))))
   (pss_one (ps_ret pe_bl))
   pss_nil)
  (pss_one (ps_ret (pe_chain op_le op_le (pv 1) (pv 0) (pv 2))))), ?_⟩
  refine ⟨_, rfl, _, _, _, rfl, hk, .inr (.inl rfl), _, rfl, ?_⟩
  rcases kn_cases hk with ⟨rfl, b, rfl⟩ | ⟨rfl, i, rfl⟩ | ⟨e1, e2, e3⟩
  · exact iteT (iteT q)
  · refine iteF ⟨_, rfl, _, _, _, rfl, hk, .inl rfl, _, rfl, iteF ?_⟩
    refine ⟨_, rfl, _, rfl, _, _, rfl, rfl, _, rfl, ?_⟩
    by_cases c : lo ≤ i
    · rw [if_pos (decide_eq_true c)]
      refine ⟨_, rfl, _, _, rfl, rfl, ?_⟩
      have e : numB lo hi (.int i) = decide (i ≤ hi) := by show (decide (lo ≤ i) && decide (i ≤ hi)) = _; rw [decide_eq_true c, Bool.true_and]
      rw [e] at q
      exact q
    · rw [if_neg (by rw [decide_eq_false c]; decide)]
      have e : numB lo hi (.int i) = false := by show (decide (lo ≤ i) && decide (i ≤ hi)) = _; rw [decide_eq_false c, Bool.false_and]
      rw [e] at q
      exact q
  · rw [e1]
    refine iteF ⟨_, rfl, _, _, _, rfl, hk, .inl rfl, _, rfl, ?_⟩
    rw [e2]
    rw [e3] at q
    exact iteT q
end
end K64
end
section
namespace K64
open PySem PySem.Spec PyProof.Rows L2
set_option maxHeartbeats 4000000
set_option Elab.async false
set_option linter.unusedVariables false
def spSame : Nat → Sp
  | 0 => fun _ _ _ _ => False
  | n + 1 => fun vs H Q _ => ∃ x y : V, vs = [x, y] ∧ Sm H n x y ∧ ∀ H', Same H H' → Q (.bl true) H'
theorem same_flat {H : Hp} {x y : V} (h : x = y ∧ ((∃ i, x = .int i) ∨ (∃ b, x = .bl b) ∨ (∃ z, x = .str z) ∨ x = .non)) : ∃ T, Kn H x T ∧ Kn H y T ∧ seqT T = false ∧ scal x y = true ∧ x = y := by
  obtain ⟨rfl, h⟩ := h
  rcases h with ⟨i, rfl⟩ | ⟨b, rfl⟩ | ⟨z, rfl⟩ | rfl
  · exact ⟨_, .int i, .int i, rfl, rfl, rfl⟩
  · exact ⟨_, .bl b, .bl b, rfl, rfl, rfl⟩
  · exact ⟨_, .str z, .str z, rfl, rfl, rfl⟩
  · exact ⟨_, .non, .non, rfl, rfl, rfl⟩
theorem Sm.cases {H : Hp} {n : Nat} {x y : V} (h : Sm H n x y) : (∃ T, Kn H x T ∧ Kn H y T ∧ seqT T = false ∧ scal x y = true ∧ x = y) ∨
    ∃ (m : Nat) (a b : Addr) (xs ys : List V), n = m + 1 ∧ x = .ref a ∧ y = .ref b ∧ ((H a = some (.tup xs) ∧ H b = some (.tup ys)) ∨ (H a = some (.lst xs) ∧ H b = some (.lst ys))) ∧ xs.length = ys.length ∧ xs.length ≤ 1000 ∧
      ∀ (i : Nat) (u v : V), xs[i]? = some u → ys[i]? = some v → Sm H m u v := by
  cases n with
  | zero => exact .inl (same_flat h)
  | succ n =>
    rcases h with h | ⟨a, b, xs, ys, h⟩
    · exact .inl (same_flat h)
    · exact .inr ⟨n, a, b, xs, ys, rfl, h⟩
theorem is_same {α : Type} [DecidableEq α] {x y : α} (e : x = y) : V.bl (decide (x = y)) = .bl true := by rw [decide_eq_true e]
theorem no_diff {α : Type} [DecidableEq α] {x y : α} (e : x = y) : V.bl (!decide (x = y)) = .bl false := by rw [decide_eq_true e]; rfl
theorem none_left {P : Program} {w : World} {K : PySem.W.Frag} {mg : Str → Option Value} {base : Heap} {f : Addr} {fd : FuncData} : FnOk P w K mg base CX0 0 f fd ["_law_found", "_law_due_here"] (spSame 0) :=
  ⟨fun vs H Q E h => h.elim, fun A outer s H args us vs Q E _ _ _ _ h => h.elim⟩
section
variable {P : Program} {w : World} {K : PySem.W.Frag} {mg : Str → Option Value} {base : Heap}
set_option maxRecDepth 100000 in
theorem ok_L_same {f : Addr} {fd : FuncData} (F : Fun K "_law_same" "_law_same" s_L_same f fd) {n : Nat} (nb : Nb2 mg) (h_L_same : Has P w K mg base n "_law_same" ["_law_found", "_law_due_here"] (spSame n))  :
    FnOk P w K mg base CX0 (n + 1) f fd ["_law_found", "_law_due_here"] (spSame (n + 1)) := by
  have nd := sc_L_same.nd
  refine F.ok (k := n) sc_L_same (fun vs H Q E h => ?_) (fun cdv A outer s H vs Q E hr h => ?_)
  · obtain ⟨x, y, rfl, _⟩ := h
    rfl
  obtain ⟨x, y, rfl, sm, q⟩ := h
  refine ⟨_, (pss_cons (ps_if (pt_truth (pe_callB call_isiT rfl nb.isi boot_isinstance (pa_cons (pv 1) (pa_cons (pe_tup (pa_cons (pe_ty nb.tuple boot_tuple) (pa_cons (pe_ty nb.list boot_list) pa_nil))) pa_nil))) (fun _ => rfl))
(pss_cons (ps_if (PW.pt (pw_or (pt_cmpR op_ne (pe_callB call_isi rfl nb.isi boot_isinstance (pa_cons (pv 0) (pa_cons (pe_ty nb.tuple boot_tuple) pa_nil))) (pe_callB call_isi rfl nb.isi boot_isinstance (pa_cons (pv 1) (pa_cons (pe_ty nb.tuple boot_tuple) pa_nil))) (nomark _)) (pw_or1 (pt_cmpR op_ne (pe_callB call_isi rfl nb.isi boot_isinstance (pa_cons (pv 0) (pa_cons (pe_ty nb.list boot_list) pa_nil))) (pe_callB call_isi rfl nb.isi boot_isinstance (pa_cons (pv 1) (pa_cons (pe_ty nb.list boot_list) pa_nil))) (nomark _)))))
(pss_one (ps_ret pe_bl))
pss_nil)
(pss_one (ps_ret (pe_and (pe_cmpR op_eq (pe_callB call_len_seq rfl nb.len PySem.boot_len (pa_cons (pv 0) pa_nil)) (pe_callB call_len_seq rfl nb.len PySem.boot_len (pa_cons (pv 1) pa_nil)) (nomark _)) (pe_one (pe_callB (call_allB rfl) rfl nb.all boot_all (pa_cons (pe_comp2 (sc := defScope s_L_same) (N0 := ["_law_found", "_law_due_here"]) (N := []) (js := []) rfl rfl rfl (by exact ⟨rfl, by decide +kernel, by decide +kernel, by decide +kernel, rfl, rfl, by decide, by decide +kernel, by decide +kernel⟩) rfl rfl
(pi_zipE rfl nb.zip (pa_cons (pv 0) (pa_cons (pv 1) pa_nil)))
(fun _ _ _ _ _ => by exact pts_nil)
(fun _ _ _ _ _ => by exact (pe_def (hk := Nat.le_refl _) h_L_same hr (pa_cons (pv 0) (pa_cons (pv 1) pa_nil))))) pa_nil)))))))
pss_nil)
(pss_one (ps_ret (pe_and (pe_cmpR op_eq (pv 0) (pv 1) (nomark _)) (pe_one (pe_cmpR op_eq (pe_callB call_isi rfl nb.isi boot_isinstance (pa_cons (pv 0) (pa_cons (pe_ty nb.bool boot_bool) pa_nil))) (pe_callB call_isi rfl nb.isi boot_isinstance (pa_cons (pv 1) (pa_cons (pe_ty nb.bool boot_bool) pa_nil))) (nomark _))))))), ?_⟩
  refine ⟨_, rfl, (by show 2 ≤ sizeLine; decide), fun p hp => ?_⟩
  have s1 := same_new hp (.tup [.ty "tuple", .ty "list"])
  have sm1 := sm.same s1
  rcases Sm.cases sm1 with ⟨T, kx, ky, sq, sc, exy⟩ | ⟨m, a, b, xs, ys, rfl, rfl, rfl, ab, hl, hz, hs⟩
  · refine ⟨_, _, _, rfl, ky, .inr upd_same, _, rfl, ?_⟩
    rw [sq]
    refine iteF ?_
    refine ⟨_, rfl, _, rfl, sc, true, is_same exy, iteT ?_⟩
    refine ⟨_, rfl, _, _, _, rfl, kx, .inr (.inl rfl), _, rfl, _, _, _, rfl, ky, .inr (.inl rfl), rfl, ?_⟩
    rw [is_same rfl]
    exact q _ s1
  · have hp1 : (upd H p (.tup [.ty "tuple", .ty "list"])) p = some (.tup [.ty "tuple", .ty "list"]) := upd_same
    generalize upd H p (.tup [.ty "tuple", .ty "list"]) = H1 at s1 sm1 ab hs hp1 ⊢
    have hh : ∃ T, Kn H1 (.ref a) T ∧ Kn H1 (.ref b) T ∧ seqT T = true ∧ (SqL K H1 a xs ∨ SqT K H1 a xs) ∧ (SqL K H1 b ys ∨ SqT K H1 b ys) ∧ ∃ t, SqK t K H1 a xs ∧ SqK t K H1 b ys ∧
        ∀ i H2, Same H1 H2 → (i < min xs.length ys.length → (Itz t K a b).go i H2 ∧ ∀ v H3, (Itz t K a b).yld i H2 v H3 → Same H2 H3 ∧ ∃ p x y, v = .ref p ∧ H3 p = some (.tup [x, y]) ∧ xs[i]? = some x ∧ ys[i]? = some y) ∧ (min xs.length ys.length ≤ i → (Itz t K a b).stop i H2) := by
      rcases ab with ⟨h1, h2⟩ | ⟨h1, h2⟩
      · exact ⟨_, .tup h1, .tup h2, rfl, .inr (SqT.of h1), .inr (SqT.of h2), true, SqT.of h1, SqT.of h2, items_zip h1 h2⟩
      · exact ⟨_, .lst h1, .lst h2, rfl, .inl (SqL.of h1), .inl (SqL.of h2), false, SqL.of h1, SqL.of h2, items_zipL h1 h2⟩
    obtain ⟨T, kx, ky, sq, sx, sy, t, q1, q2, its⟩ := hh
    refine ⟨_, _, _, rfl, ky, .inr hp1, _, rfl, ?_⟩
    rw [sq]
    refine iteT ?_
    refine ⟨_, rfl, _, _, _, rfl, kx, .inr (.inr (.inl rfl)), _, rfl, _, _, _, rfl, ky, .inr (.inr (.inl rfl)), rfl, false, no_diff rfl, iteF ?_⟩
    refine ⟨_, rfl, _, _, _, rfl, kx, .inr (.inr (.inr rfl)), _, rfl, _, _, _, rfl, ky, .inr (.inr (.inr rfl)), rfl, false, no_diff rfl, iteF ?_⟩
    refine ⟨_, rfl, a, xs, rfl, sx, _, rfl, b, ys, rfl, sy, rfl, true, is_same (by rw [hl]), iteT ?_⟩
    refine ⟨_, rfl, _, rfl, t, a, b, xs, ys, rfl, q1, q2, fun D hD => ?_⟩
    refine comp_go (min xs.length ys.length) (by rw [sizeLine_eq]; omega) (fun _ => .bl true) (fun σ => ∃ o1 o2, σ = [o1, o2]) _ hD ⟨_, _, rfl⟩ its (fun i z σ' H2 hi s2 im' hσ R hR => ?_) (fun H' s' hD' => ?_)
    · obtain ⟨o1, o2, rfl⟩ := hσ
      obtain ⟨r, u, v, rfl, hr', hu, hv⟩ := im'
      refine ⟨r, _, rfl, SqT.of hr', rfl, _, _, rfl, _, _, rfl, rfl, ?_⟩
      exact ⟨_, rfl, _, rfl, u, v, rfl, (hs i u v hu hv).same s2, fun H3 s3 => hR _ _ _ ⟨_, _, rfl⟩ s3 rfl⟩
    · have e : (List.range (min xs.length ys.length)).map (fun _ => V.bl true) = (List.replicate (min xs.length ys.length) true).map V.bl := by
        rw [List.map_const', List.length_range, List.map_replicate]
      rw [e] at hD'
      refine ⟨D, _, rfl, SqL.of hD', ?_⟩
      have e2 : (List.replicate (min xs.length ys.length) true).all id = true := by rw [List.all_eq_true]; intro x hx; rw [List.eq_of_mem_replicate hx]; rfl
      rw [e2]
      exact q _ (s1.trans s')
end
end K64
end
section
namespace K64
open PySem PySem.Spec PyProof.Rows L2
set_option maxHeartbeats 4000000
set_option Elab.async false
set_option linter.unusedVariables false
def spNeed : Sp := fun vs H Q _ => ∃ v lo hi : Int, vs = [.int v, .int lo, .int hi] ∧ lo ≤ v ∧ v ≤ hi ∧ Q .non H
abbrev Ok (ns : List Int) (k : Nat) : Prop := BB.Rw ns k (-4000000000) 4000000000 ∧ k ≤ 12
def spCarry : Sp := fun vs H Q _ => ∃ (a : Addr) (ns : List Int) (k z : Nat), vs = [.ref a, .int (z : Int)] ∧ H a = some (.tup (ns.map V.int)) ∧ Ok ns k ∧
  ∀ (r p : Addr) (t : Int) (H' : Hp), Same H H' → H' r = some (.tup ((BB.step z ns).map V.int)) → H' p = some (.tup [.ref r, .int t]) → Q (.ref p) H'
theorem map_ints (ns : List Int) (h : Int → Int) : (List.range ns.length).map (fun i => V.int (h (ns.getD i 0))) = (ns.map h).map V.int := by
  apply List.ext_getElem?
  intro i
  rw [List.getElem?_map, List.getElem?_map, List.getElem?_map]
  by_cases c : i < ns.length
  · rw [List.getElem?_range c, List.getElem?_eq_getElem c]
    show some (V.int (h (ns.getD i 0))) = some (V.int (h ns[i]))
    rw [List.getD_eq_getElem?_getD, List.getElem?_eq_getElem c]
    rfl
  · rw [List.getElem?_eq_none (by simpa using c), List.getElem?_eq_none (by omega)]
    rfl
theorem head_rd {K : PySem.W.Frag} {a : Addr} {ns : List Int} {H : Hp} {σ : L2.St} {Q : VK} (h0 : σ[0]? = some (some (.ref a))) (ha : H a = some (.tup (ns.map V.int))) (q : Q (.int (ns.headD 0)) H) :
    tIf (fun σ H Q => tVar 0 σ H fun x H' => ∃ k, TruV K x H' k ∧ Q k H') (tOp (rIxT K) (tVar 0) (tC (.int 0))) (tC (.int 0)) σ H Q := by
  refine ⟨_, h0, !(ns.map V.int).isEmpty, .inr (.inl ⟨_, SqT.of ha, rfl⟩), ?_⟩
  cases ns with
  | nil => exact iteF q
  | cons p r => exact iteT ⟨_, h0, a, _, _, _, rfl, rfl, SqT.of ha, (show atI ((p :: r).map V.int) ((0 : Nat) : Int) = some (.int p) from atI_nat rfl), q⟩
section
variable {P : Program} {w : World} {K : PySem.W.Frag} {mg : Str → Option Value} {base : Heap}
set_option maxRecDepth 100000 in
theorem ok_carry {f : Addr} {fd : FuncData} (F : Fun K "carry" "carry" s_carry f fd) (nb : Nb2 mg)   :
    FnOk P w K mg base CX0 1 f fd ["row", "size"] spCarry := by
  have nd := sc_carry.nd
  refine F.ok (k := 0) sc_carry (fun vs H Q E h => ?_) (fun cdv A outer s H vs Q E hr h => ?_)
  · obtain ⟨a, ns, k, z, rfl, _⟩ := h
    rfl
  obtain ⟨a, ns, k, z, rfl, ha, ok, q⟩ := h
  refine ⟨_, (pss_cons (ps_set (i := 2) nd rfl (Or.inl rfl) (pe_lst pa_nil))
(pss_cons (ps_set (i := 3) nd rfl (Or.inl rfl) pe_int)
(pss_cons (ps_set (i := 4) nd rfl (Or.inl rfl) pe_int)
(pss_cons (ps_set (i := 5) nd rfl (Or.inl rfl) (pe_ifExp (pt_truth (pv 0) (fun _ => rfl)) (pe_ix ix_tup (pv 0) pe_int (fun _ _ => rfl)) pe_int))
(pss_cons (ps_for PassesOwn.never rfl (pi_tup (pv 0)) (pg_name (i := 6) nd rfl (Or.inl rfl))
(pss_cons (ps_set (i := 7) nd rfl (Or.inl rfl) (pe_callB (call_min2 rfl) rfl nb.min boot_min (pa_cons (pv 3) (pa_cons (pe_op op_sub (pv 6) (pv 5)) pa_nil))))
(pss_cons (ps_expr (pe_bm PySem.F.plainAttrs_list PySem.F.slot_list_extend PySem.F.type_list_extend mt_extend (pv 2) (pa_cons (pe_callTy (call_list_rng rfl) rfl nb.list boot_list (pa_cons (pe_callTy call_rng2 rfl nb.range boot_range (pa_cons (pv 5) (pa_cons (pe_op op_add (pv 5) (pv 7)) pa_nil))) pa_nil)) pa_nil)))
(pss_cons (ps_aug (i := 3) nd rfl (Or.inl rfl) (pv 7) ip_sub)
(pss_cons (ps_if (pt_cmpR op_lt (pv 3) (pv 1) (nomark _))
(pss_cons (ps_aug (i := 3) nd rfl (Or.inl rfl) pe_int ip_add)
(pss_one (ps_aug (i := 4) nd rfl (Or.inl rfl) pe_int ip_add)))
(pss_one (ps_expr (pe_bm PySem.F.plainAttrs_list PySem.F.slot_list_append PySem.F.type_list_append mt_append (pv 2) (pa_cons (pv 6) pa_nil)))))
(pss_one (ps_set (i := 5) nd rfl (Or.inl rfl) (pe_op op_add (pv 6) pe_int))))))))
(pss_cons (ps_expr (pe_bm PySem.F.plainAttrs_list PySem.F.slot_list_extend PySem.F.type_list_extend mt_extend (pv 2) (pa_cons (pe_callTy (call_list_rng rfl) rfl nb.list boot_list (pa_cons (pe_callTy call_rng2 rfl nb.range boot_range (pa_cons (pv 5) (pa_cons (pe_op op_add (pv 5) (pv 3)) pa_nil))) pa_nil)) pa_nil)))
(pss_one (ps_ret (pe_tup (pa_cons (pe_callTy call_tuple_of rfl nb.tuple boot_tuple (pa_cons (pv 2) pa_nil)) (pa_cons (pv 4) pa_nil))))))))))), ?_⟩
  obtain ⟨rw_, k12⟩ := ok
  refine ⟨(by show 0 ≤ sizeLine; decide), fun f hf => ?_⟩
  have s1 := same_new hf (.lst [])
  refine head_rd (K := K) rfl (s1 _ _ ha) ?_
  have hb0 : -4000000000 ≤ ns.headD 0 ∧ ns.headD 0 ≤ 4000000000 ∧ ∀ p ∈ ns, ns.headD 0 ≤ p := by
    cases ns with
    | nil => exact ⟨by decide, by decide, fun p hp => by cases hp⟩
    | cons p r =>
      have := rw_.bd p (List.mem_cons_self ..)
      refine ⟨this.1, this.2, fun x hx => ?_⟩
      rcases List.mem_cons.mp hx with rfl | hx
      · exact Int.le_refl _
      · exact Int.le_of_lt ((List.pairwise_cons.mp rw_.up).1 x hx)
  refine ⟨_, rfl, a, rfl, ⟨_, SqT.of (s1 _ _ ha)⟩, ?_⟩
  refine for_tup (xs := ns.map V.int) (fun i σ H' => ∃ (bh : List Int) (L : Nat) (l t box : Int) (o6 o7 : Option V), σ = [some (.ref a), some (.int (z : Int)), some (.ref f), some (.int l), some (.int t), some (.int box), o6, o7] ∧ l = (L : Int) ∧ Same H H' ∧ H' f = some (.lst (bh.map V.int)) ∧
      bh ++ BB.sp z L box (ns.drop i) = BB.step z ns ∧ bh.length + L = i ∧ (∀ p ∈ ns.drop i, box ≤ p) ∧ -4000000000 ≤ box ∧ box ≤ 4000000001) ?_ (fun i σ H' _ hp => ?_) (fun i x σ H' hxi hp => ?_) (fun σ H' hp => ?_)
  · exact ⟨[], 0, _, _, _, _, _, rfl, rfl, s1, upd_same, rfl, rfl, hb0.2.2, hb0.1, by omega⟩
  · obtain ⟨bh, L, l, t, box, o6, o7, rfl, el, sm, hfh, _⟩ := hp
    exact SqT.of (sm _ _ ha)
  · obtain ⟨bh, L, l, t, box, o6, o7, rfl, el, sm, hfh, eq, cnt, ge, b1, b2⟩ := hp
    have hil : i < ns.length := by
      have := (List.getElem?_eq_some_iff.mp hxi).1
      simpa using this
    have k1 := rw_.len
    obtain ⟨p, rfl, ep⟩ := int_at hxi
    have edr : ns.drop i = p :: ns.drop (i + 1) := by
      rw [List.drop_eq_getElem_cons hil]
      have : ns[i] = p := by rw [← ep, List.getD_eq_getElem?_getD, List.getElem?_eq_getElem hil]; rfl
      rw [this]
    have hbp : box ≤ p := ge p (by rw [edr]; exact List.mem_cons_self ..)
    have pb := rw_.bd p (List.mem_of_mem_drop (by rw [edr]; exact List.mem_cons_self .. : p ∈ ns.drop i))
    rw [edr] at eq
    unfold BB.sp at eq
    have em : (if p - box < l then p - box else l) = ((min L (p - box).toNat : Nat) : Int) := by
      rw [el]
      split <;> omega
    generalize hm : min L (p - box).toNat = m at eq em
    refine ⟨_, rfl, _, rfl, _, rfl, _, _, rfl, rfl, _, _, rfl, ?_⟩
    refine ⟨_, rfl, .inl ⟨rfl, _, SqL.of hfh⟩, _, rfl, _, rfl, _, rfl, _, _, rfl, rfl, _, _, rfl, fun p1 hp1 => ?_⟩
    refine ⟨p1, _, _, rfl, upd_same, ⟨by omega, by omega, by omega, by omega⟩, by rw [sizeLine_eq]; omega, fun l1 hl1 => ?_⟩
    rw [em] at hl1 ⊢
    have en : (box + (m : Int) - box).toNat = m := by omega
    rw [en]
    have s3 := (same_new hp1 (.rng box (box + (m : Int)))).trans (same_new hl1 (.lst ((ups box m).map V.int)))
    have hl1' : (upd (upd H' p1 (.rng box (box + (m : Int)))) l1 (.lst ((ups box m).map V.int))) l1 = some (.lst ((ups box m).map V.int)) := upd_same
    have hf1 := s3 _ _ hfh
    have sm3 := sm.trans s3
    generalize upd (upd H' p1 (.rng box (box + (m : Int)))) l1 (.lst ((ups box m).map V.int)) = H3 at s3 hl1' hf1 sm3 ⊢
    have lup : (ups box m).length = m := ups_length ..
    have mle : m ≤ L := by omega
    refine ⟨f, l1, _, _, rfl, rfl, hf1, hl1', by rw [List.length_map, List.length_map, lup, sizeLine_eq]; omega, ?_⟩
    have hf4 : (upd H3 f (.lst (bh.map V.int ++ (ups box m).map V.int))) f = some (.lst ((bh ++ ups box m).map V.int)) := by rw [upd_same, List.map_append]
    have sm4 : Same H (upd H3 f (.lst (bh.map V.int ++ (ups box m).map V.int))) := fun b o hb => by rw [upd_ne (ne_of_none hb hf)]; exact sm3 b o hb
    generalize upd H3 f (.lst (bh.map V.int ++ (ups box m).map V.int)) = H4 at hf4 sm4 ⊢
    refine ⟨_, rfl, _, rfl, _, _, rfl, rfl, ?_⟩
    have ll : l - (m : Int) = ((L - m : Nat) : Int) := by omega
    refine ⟨_, rfl, _, rfl, _, _, rfl, rfl, _, rfl, ?_⟩
    have nge : ∀ x ∈ ns.drop (i + 1), p + 1 ≤ x := fun x hx => by
      have up2 : (p :: ns.drop (i + 1)).Pairwise (· < ·) := by rw [← edr]; exact rw_.up.sublist (List.drop_sublist ..)
      have := (List.pairwise_cons.mp up2).1 x hx
      omega
    refine ite2 (fun c => ?_) (fun c => ?_)
    · have c' : l - (m : Int) < (z : Int) := of_decide_eq_true c
      rw [if_pos (by omega), ← List.append_assoc] at eq
      refine ⟨_, rfl, _, _, rfl, rfl, _, rfl, _, _, rfl, rfl, _, rfl, _, _, rfl, rfl, ?_⟩
      exact ⟨bh ++ ups box m, L - m + 1, _, _, _, _, _, rfl, (by show l - (m : Int) + 1 = _; omega), sm4, hf4, eq, by rw [List.length_append, lup]; omega, nge, (by show _ ≤ p + 1; omega), (by show p + 1 ≤ _; omega)⟩
    · have c' : ¬ l - (m : Int) < (z : Int) := of_decide_eq_false (Bool.eq_false_iff.mpr c)
      rw [if_neg (by omega), ← List.append_assoc] at eq
      refine ⟨_, rfl, .inl ⟨rfl, _, SqL.of hf4⟩, _, rfl, f, _, _, rfl, rfl, hf4, by rw [List.length_map, List.length_append, lup, sizeLine_eq]; omega, ?_⟩
      have hf5 : (upd H4 f (.lst ((bh ++ ups box m).map V.int ++ [.int p]))) f = some (.lst ((bh ++ ups box m ++ [p]).map V.int)) := by rw [upd_same, List.map_append (l₂ := [p])]; rfl
      have sm5 : Same H (upd H4 f (.lst ((bh ++ ups box m).map V.int ++ [.int p]))) := fun b o hb => by rw [upd_ne (ne_of_none hb hf)]; exact sm4 b o hb
      refine ⟨_, rfl, _, _, rfl, rfl, ?_⟩
      exact ⟨bh ++ ups box m ++ [p], L - m, _, _, _, _, _, rfl, ll, sm5, hf5, by rw [List.append_assoc]; exact eq, by rw [List.length_append, List.length_append, lup, List.length_singleton]; omega, nge, (by show _ ≤ p + 1; omega), (by show p + 1 ≤ _; omega)⟩
  · obtain ⟨bh, L, l, t, box, o6, o7, rfl, el, sm, hfh, eq, cnt, ge, b1, b2⟩ := hp
    rw [List.length_map] at cnt eq
    rw [List.drop_length] at eq
    have k1 := rw_.len
    have eq' : bh ++ ups box L = BB.step z ns := eq
    refine ⟨_, rfl, .inl ⟨rfl, _, SqL.of hfh⟩, _, rfl, _, rfl, _, rfl, _, _, rfl, rfl, _, _, rfl, fun p1 hp1 => ?_⟩
    refine ⟨p1, _, _, rfl, upd_same, ⟨by omega, by omega, by omega, by omega⟩, by rw [sizeLine_eq]; omega, fun l1 hl1 => ?_⟩
    have en : (box + l - box).toNat = L := by omega
    rw [en]
    have s3 := (same_new hp1 (.rng box (box + l))).trans (same_new hl1 (.lst ((ups box L).map V.int)))
    have hl1' : (upd (upd H' p1 (.rng box (box + l))) l1 (.lst ((ups box L).map V.int))) l1 = some (.lst ((ups box L).map V.int)) := upd_same
    have hf1 := s3 _ _ hfh
    have sm3 := sm.trans s3
    generalize upd (upd H' p1 (.rng box (box + l))) l1 (.lst ((ups box L).map V.int)) = H3 at s3 hl1' hf1 sm3 ⊢
    have lup : (ups box L).length = L := ups_length ..
    refine ⟨f, l1, _, _, rfl, rfl, hf1, hl1', by rw [List.length_map, List.length_map, lup, sizeLine_eq]; omega, ?_⟩
    have hf4 : (upd H3 f (.lst (bh.map V.int ++ (ups box L).map V.int))) f = some (.lst ((BB.step z ns).map V.int)) := by rw [upd_same, ← eq', List.map_append]
    have sm4 : Same H (upd H3 f (.lst (bh.map V.int ++ (ups box L).map V.int))) := fun b o hb => by rw [upd_ne (ne_of_none hb hf)]; exact sm3 b o hb
    generalize upd H3 f (.lst (bh.map V.int ++ (ups box L).map V.int)) = H4 at hf4 sm4 ⊢
    refine ⟨_, rfl, f, _, rfl, .inl ⟨SqL.of hf4, fun l2 hl2 => ?_⟩⟩
    refine ⟨_, rfl, (by show 2 ≤ sizeLine; decide), fun p2 hp2 => ?_⟩
    have s5 := same_new hl2 (.tup ((BB.step z ns).map V.int))
    have s6 := same_new hp2 (.tup [.ref l2, .int t])
    exact q l2 p2 t _ (sm4.trans (s5.trans s6)) (s6 _ _ upd_same) upd_same
end
end K64
end
section
namespace K64
open PySem PySem.Spec PyProof.Rows L2
set_option maxHeartbeats 4000000
set_option maxRecDepth 100000
set_option Elab.async false
set_option linter.unusedVariables false
theorem at_mem {xs : List V} {k : Int} (h0 : 0 ≤ k) (h1 : k < (xs.length : Int)) : ∃ u, atI xs k = some u ∧ u ∈ xs ∧ xs[k.toNat]? = some u := by
  have hk : k.toNat < xs.length := by omega
  have ek : ((k.toNat : Nat) : Int) = k := by omega
  have q : atI xs ((k.toNat : Nat) : Int) = some xs[k.toNat] := atI_nat (List.getElem?_eq_getElem hk)
  rw [ek] at q
  exact ⟨xs[k.toNat], q, List.getElem_mem hk, List.getElem?_eq_getElem hk⟩
theorem Keep.refl (a : Addr) (H : Hp) : Keep a H H := fun _ _ _ h => h
theorem Keep.trans {a : Addr} {H H1 H2 : Hp} (k : Keep a H H1) (k' : Keep a H1 H2) : Keep a H H2 := fun c o n h => k' c o n (k c o n h)
theorem Keep.same {a : Addr} {H H1 H2 : Hp} (k : Keep a H H1) (s : Same H1 H2) : Keep a H H2 := fun c o n h => s c o (k c o n h)
theorem keep_upd (a : Addr) (H : Hp) (o : HO) : Keep a H (upd H a o) := fun c u n h => by rw [upd_ne n]; exact h
theorem StAt.same {H H' : Hp} {a : Addr} {x : Int} {b : Bool} (h : StAt H a x b) (s : Same H H') : StAt H' a x b := ⟨s _ _ h.1, h.2⟩
theorem StAt.upd {H : Hp} {a : Addr} {x' : Int} {b : Bool} (d : Dok x' b) : StAt (L2.upd H a (.lst [.int x', .bl b])) a x' b := ⟨upd_same, d⟩
structure SI (a : Addr) (b : Bool) (H0 H : Hp) : Prop where
  st : ∃ x, StAt H a x b
  kp : Keep a H0 H
theorem SI.same {a : Addr} {b : Bool} {H0 H H' : Hp} (r : SI a b H0 H) (s : Same H H') : SI a b H0 H' := by
  obtain ⟨x, hx⟩ := r.st
  exact ⟨⟨x, hx.same s⟩, r.kp.same s⟩
theorem SI.take {a : Addr} {b : Bool} {H0 H : Hp} {x' : Int} (r : SI a b H0 H) (d : Dok x' b) : SI a b H0 (upd H a (.lst [.int x', .bl b])) := ⟨⟨x', StAt.upd d⟩, r.kp.trans (keep_upd a H _)⟩
theorem SI.new {a : Addr} {b : Bool} {H0 H : Hp} (r : SI a b H0 H) {p : Addr} (hp : H p = none) : p ≠ a := fun e => by
  obtain ⟨x, hx⟩ := r.st
  rw [e, hx.1] at hp; cases hp
theorem SI.old {a : Addr} {b : Bool} {H0 H : Hp} (r : SI a b H0 H) {p : Addr} (hp : H p = none) : H0 p = none := by
  cases e : H0 p with
  | none => rfl
  | some o => rw [r.kp _ _ (r.new hp) e] at hp; cases hp
section
variable {P : Program} {w : World} {K : PySem.W.Frag} {mg : Str → Option Value} {base : Heap}
end
end K64
end
section
namespace K64
open PySem PySem.Spec PyProof.Rows L2
set_option maxHeartbeats 4000000
set_option maxRecDepth 100000
set_option Elab.async false
set_option linter.unusedVariables false
theorem in_nums (b : Int) (ns : List Int) : inV (.int b) (ns.map V.int) = decide (b ∈ ns) := by
  unfold inV
  rw [List.any_map, Bool.eq_iff_iff, List.any_eq_true, decide_eq_true_iff]
  constructor
  · rintro ⟨x, hx, e⟩
    have e' : x = b := of_decide_eq_true e
    exact e' ▸ hx
  · intro h
    exact ⟨b, h, decide_eq_true (rfl : b = b)⟩
theorem flat_nums (ns : List Int) : (ns.map V.int).all flatV = true := by
  rw [List.all_map, List.all_eq_true]
  intro x _
  rfl
theorem num_at {ns : List Int} {i : Nat} {x : V} (h : (ns.map V.int)[i]? = some x) : x = .int (ns.getD i 0) := by
  obtain ⟨v, e, e2⟩ := int_at h
  rw [e, e2]
def spTw : Sp := fun vs H Q _ => ∃ (a : Addr) (N : Int) (bs : List Int), vs = [.ref a] ∧ RgAt H a N bs ∧ bs.length ≤ 12 ∧
  ∀ (r : Addr) (H' : Hp), Same H H' → H' r = some (.tup ((BB.twice N bs).map V.int)) → Q (.ref r) H'
def spRc : Sp := fun vs H Q _ => ∃ (a : Addr) (N : Int) (bs : List Int), vs = [.ref a] ∧ RgAt H a N bs ∧ BB.Ring N bs ∧ N ≤ 14 ∧
  ∀ (r : Addr) (H' : Hp), Same H H' → RgAt H' r N (BB.rUp N bs) → Q (.ref r) H'
def spStp : Sp := fun vs H Q _ => ∃ (a : Addr) (N way : Int) (bs : List Int), vs = [.ref a, .int way] ∧ (way = 1 ∨ way = -1) ∧ RgAt H a N bs ∧ BB.Ring N bs ∧ N ≤ 14 ∧
  ∀ (r : Addr) (H' : Hp), Same H H' → RgAt H' r N (BB.rW way N bs) → Q (.ref r) H'
theorem twice_ok {N : Int} {bs : List Int} (r : BB.Ring N bs) (l : N ≤ 14) : Ok (BB.twice N bs) (BB.twice N bs).length := by
  have := r.few
  refine ⟨⟨BB.twice_up r, rfl, fun p hp => ?_⟩, ?_⟩
  · have := (BB.twice_mem r p).mp hp
    omega
  · unfold BB.twice
    rw [List.length_append, List.length_map]
    omega
theorem sel_ints (ns : List Int) (p : Int → Bool) (f : Int → Int) : ((List.range ns.length).filter fun i => p (ns.getD i 0)).map (fun i => V.int (f (ns.getD i 0))) = ((ns.filter p).map f).map V.int := by
  have := BB.sel_list 0 ns p (fun x => V.int (f x))
  rw [this, List.map_map]
  rfl
theorem seq_while {c : TT} {tb u : TS} {D : Ends} {σ : L2.St} {H : Hp} (h : tWhile c tb { D with nx := u D } σ H) : tSeq (tWhile c tb) u D σ H := h
def st6 (σ : L2.St) : Int := match σ[6]? with
  | some (some (V.int i)) => i
  | _ => 0
section
variable {P : Program} {w : World} {K : PySem.W.Frag} {mg : Str → Option Value} {base : Heap}
set_option maxRecDepth 100000 in
theorem ok_laid_twice {f : Addr} {fd : FuncData} (F : Fun K "laid_twice" "laid_twice" s_laid_twice f fd) (nb : Nb3 mg)   :
    FnOk P w K mg base CX0 1 f fd ["ring"] spTw := by
  have nd := sc_laid_twice.nd
  refine F.ok (k := 0) sc_laid_twice (fun vs H Q E h => ?_) (fun cdv A outer s H vs Q E hr h => ?_)
  · obtain ⟨a, N, bs, rfl, _⟩ := h
    rfl
  obtain ⟨a, N, bs, rfl, hR, l12, q⟩ := h
  refine ⟨_, (pss_cons (ps_asg (pv 0) (pg_tup rfl (pgs_cons (pg_name (i := 1) nd rfl (Or.inr rfl)) (pgs_cons (pg_name (i := 2) nd rfl (Or.inl rfl)) pgs_nil))))
(pss_one (ps_ret (pe_op op_catA (pv 2) (pe_callTy call_tuple_of rfl nb.tuple boot_tuple (pa_cons (pe_comp1 (sc := defScope s_laid_twice) (N0 := ["ring", "many", "balls"]) (N := ["many"]) (js := [1]) rfl rfl rfl (by exact ⟨rfl, by decide +kernel, by decide +kernel, by decide +kernel, rfl, rfl, by decide, by decide +kernel, by decide +kernel⟩) rfl
(pi_tup (pv 2))
(fun _ _ _ _ _ => by exact pts_nil)
(fun _ _ _ _ _ => by exact (pe_op op_add (pv 0) (pv 1)))) pa_nil)))))), ?_⟩
  obtain ⟨p, h1, h2⟩ := hR
  refine ⟨_, rfl, a, _, rfl, SqT.of h1, rfl, _, _, rfl, _, _, rfl, rfl, ?_⟩
  refine ⟨_, rfl, _, rfl, p, rfl, ⟨_, SqT.of h2⟩, fun D hD => ?_⟩
  refine comp_go (bs.map V.int).length (by rw [List.length_map, sizeLine_eq]; omega) (fun i => .int (bs.getD i 0 + N)) (fun σ => ∃ o1, σ = [o1, some (.int N)]) _ hD (by exact ⟨_, rfl⟩) (items_tup h2) (fun i x σ' H2 hi s2 im hσ R hR => ?_) (fun H1 s1 hD1 => ?_)
  · obtain ⟨o1, rfl⟩ := hσ
    obtain rfl := num_at im
    exact ⟨_, rfl, _, rfl, _, _, rfl, rfl, hR _ _ _ ⟨_, rfl⟩ (Same.refl _) rfl⟩
  rw [List.length_map, map_ints bs (fun z => z + N)] at hD1
  refine ⟨D, _, rfl, .inl ⟨SqL.of hD1, fun l hl => ?_⟩⟩
  have s2 := same_new hl (.tup ((bs.map fun z => z + N).map V.int))
  refine ⟨p, l, _, _, rfl, rfl, s2 _ _ (s1 _ _ h2), upd_same, by rw [List.length_map, List.length_map, List.length_map, sizeLine_eq]; omega, fun t H3 s3 h3 => ?_⟩
  refine q t H3 (s1.trans (s2.trans s3)) ?_
  rw [h3, ← List.map_append]
  rfl
set_option maxRecDepth 100000 in
theorem ok_ring_carried {f : Addr} {fd : FuncData} (F : Fun K "ring_carried" "ring_carried" s_ring_carried f fd) (nb : Nb3 mg) (h_laid_twice : Has P w K mg base 1 "laid_twice" ["ring"] spTw) (h_carry : Has P w K mg base 1 "carry" ["row", "size"] spCarry)  :
    FnOk P w K mg base CX0 2 f fd ["ring"] spRc := by
  have nd := sc_ring_carried.nd
  refine F.ok (k := 1) sc_ring_carried (fun vs H Q E h => ?_) (fun cdv A outer s H vs Q E hr h => ?_)
  · obtain ⟨a, N, bs, rfl, _⟩ := h
    rfl
  obtain ⟨a, N, bs, rfl, hR, ri, n14, q⟩ := h
  refine ⟨_, (pss_cons (ps_asg (pv 0) (pg_tup rfl (pgs_cons (pg_name (i := 1) nd rfl (Or.inr rfl)) (pgs_cons (pg_name (i := 2) nd rfl (Or.inl rfl)) pgs_nil))))
(pss_cons (ps_set (i := 3) nd rfl (Or.inl rfl) (pe_def h_laid_twice hr (pa_cons (pv 0) pa_nil)))
(pss_cons (ps_asg (pe_def h_carry hr (pa_cons (pv 3) (pa_cons (pe_callB call_len_seq rfl nb.len PySem.boot_len (pa_cons (pv 3) pa_nil)) pa_nil))) (pg_tup rfl (pgs_cons (pg_name (i := 4) nd rfl (Or.inl rfl)) (pgs_cons (pg_name (i := 5) nd rfl (Or.inl rfl)) pgs_nil))))
(pss_one (ps_ret (pe_tup (pa_cons (pv 1) (pa_cons (pe_callTy call_tuple_of rfl nb.tuple boot_tuple (pa_cons (pe_comp1 (sc := defScope s_ring_carried) (N0 := ["ring", "many", "balls", "twice", "behind", "taken"]) (N := ["many"]) (js := [1]) rfl rfl rfl (by exact ⟨rfl, by decide +kernel, by decide +kernel, by decide +kernel, rfl, rfl, by decide, by decide +kernel, by decide +kernel⟩) rfl
(pi_tup (pv 4))
(fun _ _ _ _ _ => by exact (pts_one (pt_chain op_le op_lt (pv 1) (pv 0) (pe_op op_mul pe_int (pv 1)))))
(fun _ _ _ _ _ => by exact (pe_op op_sub (pv 0) (pv 1)))) pa_nil)) pa_nil)))))))), ?_⟩
  have hR0 := hR
  obtain ⟨p, h1, h2⟩ := hR
  have few := ri.few
  refine ⟨_, rfl, a, _, rfl, SqT.of h1, rfl, _, _, rfl, _, _, rfl, rfl, ?_⟩
  refine ⟨_, rfl, a, N, bs, rfl, hR0, by omega, fun t H1 s1 ht => ?_⟩
  refine ⟨_, rfl, _, rfl, t, _, rfl, .inr (SqT.of ht), t, _, _, (BB.twice N bs).length, by rw [List.length_map]; rfl, ht, twice_ok ri n14, fun r2 p2 tk H2 s2 g2 g2' => ?_⟩
  refine ⟨p2, _, rfl, SqT.of g2', rfl, _, _, rfl, _, _, rfl, rfl, ?_⟩
  generalize hT : BB.step (BB.twice N bs).length (BB.twice N bs) = T at g2
  have lT : T.length ≤ 12 := by
    have := (twice_ok ri n14).1.step (BB.twice N bs).length
    rw [hT] at this
    rw [this.len]
    exact (twice_ok ri n14).2
  refine ⟨_, rfl, _, rfl, r2, rfl, ⟨_, SqT.of g2⟩, fun D hD => ?_⟩
  refine comp_sel (T.map V.int).length (by rw [List.length_map, sizeLine_eq]; omega) (fun i => decide (N ≤ T.getD i 0) && decide (T.getD i 0 < 2 * N)) (fun i => .int (T.getD i 0 - N)) (fun σ => ∃ o1, σ = [o1, some (.int N)]) _ hD (by exact ⟨_, rfl⟩) (items_tup g2) (fun i x σ' H3 hi s3 im hσ R S hR hS => ?_) (fun H3 s3 hD3 => ?_)
  · obtain ⟨o1, rfl⟩ := hσ
    obtain rfl := num_at im
    refine ⟨_, rfl, _, rfl, _, _, rfl, rfl, _, rfl, ?_⟩
    by_cases c : N ≤ T.getD i 0
    · rw [decide_eq_true c]
      refine iteT ⟨_, rfl, _, _, rfl, rfl, .inl ⟨by decide, by decide⟩, _, _, rfl, rfl, _, rfl, ?_⟩
      by_cases c2 : T.getD i 0 < 2 * N
      · rw [decide_eq_true c2]
        exact iteT ⟨_, rfl, _, rfl, _, _, rfl, rfl, hR (by rw [decide_eq_true c, decide_eq_true c2]; rfl) _ _ _ ⟨_, rfl⟩ (Same.refl _) rfl⟩
      · rw [decide_eq_false c2]
        exact iteF (hS (by rw [decide_eq_false c2, Bool.and_false]) _ _ ⟨_, rfl⟩ (Same.refl _))
    · rw [decide_eq_false c]
      exact iteF ⟨_, rfl, iteF (hS (by rw [decide_eq_false c]; rfl) _ _ ⟨_, rfl⟩ (Same.refl _))⟩
  rw [List.length_map, sel_ints T (fun x => decide (N ≤ x) && decide (x < 2 * N)) (fun x => x - N)] at hD3
  have eU : (T.filter fun x => decide (N ≤ x) && decide (x < 2 * N)).map (fun x => x - N) = BB.rUp N bs := by rw [← hT]; rfl
  rw [eU] at hD3
  refine ⟨D, _, rfl, .inl ⟨SqL.of hD3, fun l hl => ⟨(by show 2 ≤ sizeLine; decide), fun r hr => ?_⟩⟩⟩
  have s4 := same_new hl (.tup ((BB.rUp N bs).map V.int))
  have s5 := same_new hr (.tup [.int N, .ref l])
  exact q r _ (s1.trans (s2.trans (s3.trans (s4.trans s5)))) ⟨l, upd_same, s5 _ _ upd_same⟩
set_option maxRecDepth 100000 in
theorem ok_L_stepped {f : Addr} {fd : FuncData} (F : Fun K "_law_stepped" "_law_stepped" s_L_stepped f fd) (nb : Nb3 mg)   :
    FnOk P w K mg base CX0 1 f fd ["_law_ring", "_law_way"] spStp := by
  have nd := sc_L_stepped.nd
  refine F.ok (k := 0) sc_L_stepped (fun vs H Q E h => ?_) (fun cdv A outer s H vs Q E hr h => ?_)
  · obtain ⟨a, N, way, bs, rfl, _⟩ := h
    rfl
  obtain ⟨a, N, way, bs, rfl, hw, hR, ri, n14, q⟩ := h
  refine ⟨_, (pss_cons (ps_asg (pv 0) (pg_tup rfl (pgs_cons (pg_name (i := 2) nd rfl (Or.inl rfl)) (pgs_cons (pg_name (i := 3) nd rfl (Or.inl rfl)) pgs_nil))))
(pss_cons (ps_set (i := 4) nd rfl (Or.inl rfl) (pe_lst pa_nil))
(pss_cons (ps_for PassesOwn.never rfl (pi_tup (pv 3)) (pg_name (i := 5) nd rfl (Or.inl rfl))
(pss_cons (ps_par (i := 6) (j := 7) rfl nd rfl rfl (by decide) rfl rfl (pa_cons (pv 5) (pa_cons pe_int pa_nil)) rfl)
(pss_cons (ps_while PassesOwn.never (pt_cmpR op_gt (pv 7) pe_int (nomark _))
(pss_cons (ps_set (i := 6) nd rfl (Or.inl rfl) (pe_op op_mod (pe_op op_add (pv 6) (pv 1)) (pv 2)))
(pss_one (ps_set (i := 7) nd rfl (Or.inl rfl) (pe_op op_add (pv 7) (pe_ix ix_list (pe_lst (pa_cons (pe_un un_neg pe_int) (pa_cons pe_int pa_nil))) (pe_callTy call_int1 rfl nb.int boot_int (pa_cons (pe_cmpR op_in_seq (pv 6) (pv 3) rfl) pa_nil)) (fun _ _ => rfl)))))))
(pss_one (ps_expr (pe_bm PySem.F.plainAttrs_list PySem.F.slot_list_append PySem.F.type_list_append mt_append (pv 4) (pa_cons (pv 6) pa_nil)))))))
(pss_one (ps_ret (pe_tup (pa_cons (pv 2) (pa_cons (pe_callTy call_tuple_of rfl nb.tuple boot_tuple (pa_cons (pe_callB call_sortL rfl nb.sorted boot_sorted (pa_cons (pv 4) pa_nil)) pa_nil)) pa_nil)))))))), ?_⟩
  obtain ⟨p, h1, h2⟩ := hR
  have n0 := ri.few
  obtain ⟨f, hf0⟩ := BB.far_ex ri (BB.waS_t bs hw)
  refine ⟨_, rfl, a, _, rfl, SqT.of h1, rfl, _, _, rfl, _, _, rfl, rfl, ?_⟩
  refine ⟨(by show 0 ≤ sizeLine; decide), fun D hD => ?_⟩
  have s1 := same_new hD (.lst [])
  refine ⟨_, rfl, p, rfl, ⟨_, SqT.of (s1 _ _ h2)⟩, ?_⟩
  refine for_tup (xs := bs.map V.int) (fun i σ H' => ∃ o5 o6 o7, σ = [some (.ref a), some (.int way), some (.int N), some (.ref p), some (.ref D), o5, o6, o7] ∧ Same H H' ∧ H' D = some (.lst (((bs.take i).map fun b => (b + way * (f (way * b) : Int)) % N).map V.int))) ⟨_, _, _, rfl, s1, upd_same⟩ (fun i σ H' _ hp => ?_) (fun i x σ H' hxi hp => ?_) (fun σ H' hp => ?_)
  · obtain ⟨o5, o6, o7, rfl, sm, hd⟩ := hp
    exact SqT.of (sm _ _ h2)
  · obtain ⟨o5, o6, o7, rfl, sm, hd⟩ := hp
    have hil : i < bs.length := by
      have := (List.getElem?_eq_some_iff.mp hxi).1
      simpa using this
    obtain ⟨b, rfl, eb⟩ := int_at hxi
    have hb : b ∈ bs := by rw [← eb, List.getD_eq_getElem?_getD, List.getElem?_eq_getElem hil]; exact List.getElem_mem hil
    have bd := ri.bd b hb
    have pt := hf0 (way * b)
    have sb : BB.waS way N bs (way * b) = true := by
      unfold BB.waS
      rw [decide_eq_true_iff]
      rcases hw with rfl | rfl
      · rw [Int.one_mul, Int.one_mul, Int.emod_eq_of_lt bd.1 bd.2]; exact hb
      · rw [show -1 * (-1 * b) = b by omega, Int.emod_eq_of_lt bd.1 bd.2]; exact hb
    have dN := BB.wa_lt ri (BB.waS_t bs hw) sb pt
    generalize hd' : f (way * b) = d at pt dN
    refine ⟨_, rfl, _, _, rfl, ?_⟩
    refine seq_while ?_
    refine while_by (fun σ H2 => Same H H2 ∧ H2 D = some (.lst (((bs.take i).map fun b => (b + way * (f (way * b) : Int)) % N).map V.int)) ∧ ∃ e : Nat, σ = [some (.ref a), some (.int way), some (.int N), some (.ref p), some (.ref D), some (.int b), some (.int ((b + way * (e : Int)) % N)), some (.int (BB.wk (BB.waS way N bs) (way * b) e))] ∧ e ≤ d) (fun σ _ => (N - (way * (st6 σ - b)) % N).toNat) ⟨sm, hd, 0, ?_, Nat.zero_le _⟩ (fun σ H2 hp => ?_) (fun σ H2 Q Q' hq h => ?_)
    · rw [Int.natCast_zero, Int.mul_zero, Int.add_zero, Int.emod_eq_of_lt bd.1 bd.2]
      rfl
    · obtain ⟨sm, hd, e, rfl, ed⟩ := hp
      refine ⟨_, rfl, _, _, rfl, rfl, _, rfl, ?_⟩
      by_cases c : e < d
      · have c1 : 0 < BB.wk (BB.waS way N bs) (way * b) e := pt.2 e c
        rw [decide_eq_true c1]
        refine iteT ?_
        refine ⟨_, rfl, _, rfl, _, _, rfl, rfl, _, rfl, _, _, rfl, rfl, (by show 0 < N; omega), ?_⟩
        refine ⟨_, rfl, _, rfl, (by show 2 ≤ sizeLine; decide), fun pl hpl => ?_⟩
        have s3 := same_new hpl (.lst [.int (-1), .int 1])
        refine ⟨_, rfl, _, rfl, p, _, rfl, .inr (SqT.of (s3 _ _ (sm _ _ h2))), rfl, flat_nums _, .inr ⟨_, rfl, ?_⟩⟩
        have ei := in_nums (((b + way * (e : Int)) % N + way) % N) bs
        have eg := BB.wa_go (N := N) bs hw b e
        generalize inV (.int (((b + way * (e : Int)) % N + way) % N)) (bs.map V.int) = bb at ei ⊢
        rw [← ei] at eg
        refine ⟨pl, [.int (-1), .int 1], _, .int (if bb = true then 1 else -1), rfl, rfl, SqL.of upd_same, (by cases bb <;> rfl), _, _, rfl, rfl, ?_⟩
        refine ⟨⟨sm.trans s3, s3 _ _ hd, e + 1, ?_, c⟩, ?_⟩
        · have e1 : BB.wk (BB.waS way N bs) (way * b) e + (if bb = true then 1 else -1) = BB.wk (BB.waS way N bs) (way * b) (e + 1) := by
            rw [BB.wk, eg]
          show [some (V.ref a), some (V.int way), some (V.int N), some (V.ref p), some (V.ref D), some (V.int b), some (V.int (((b + way * (e : Int)) % N + way) % N)), some (V.int (BB.wk (BB.waS way N bs) (way * b) e + if bb = true then 1 else -1))] = _
          rw [e1, BB.wa_next]
        · show (N - (way * (((b + way * (e : Int)) % N + way) % N - b)) % N).toNat < (N - (way * ((b + way * (e : Int)) % N - b)) % N).toNat
          rw [BB.wa_next, BB.wa_mu hw (by omega), BB.wa_mu hw (by omega)]
          omega
      · have ee : e = d := by omega
        subst ee
        rw [pt.1, decide_eq_false (by omega)]
        refine iteF ?_
        refine ⟨_, rfl, .inl ⟨rfl, _, SqL.of hd⟩, _, rfl, D, _, _, rfl, rfl, hd, by rw [List.length_map, List.length_map, List.length_take, sizeLine_eq]; omega, ?_⟩
        refine ⟨_, _, _, rfl, fun c o hc => by rw [upd_ne (ne_of_none hc hD)]; exact sm c o hc, ?_⟩
        rw [upd_same, List.take_succ, List.getElem?_eq_getElem hil, List.map_append, List.map_append]
        have : bs[i] = b := by rw [← eb, List.getD_eq_getElem?_getD, List.getElem?_eq_getElem hil]; rfl
        rw [this]
        show some (HO.lst (_ ++ [V.int ((b + way * (e : Int)) % N)])) = some (HO.lst (_ ++ [V.int ((b + way * (f (way * b) : Int)) % N)]))
        rw [hd']
    · obtain ⟨v, e, i1, i2, f1, f2, k2, f3, q2⟩ := h
      exact ⟨v, e, i1, i2, f1, f2, k2, f3, hq _ _ q2⟩
  · obtain ⟨o5, o6, o7, rfl, sm, hd⟩ := hp
    rw [List.length_map, List.take_length] at hd
    refine ⟨_, rfl, _, rfl, D, _, rfl, .inl hd, by rw [List.length_map]; omega, fun ns l pm le hl => ?_⟩
    have s6 := same_new hl (.lst (ns.map V.int))
    refine ⟨l, _, rfl, .inl ⟨SqL.of upd_same, fun t ht => ⟨(by show 2 ≤ sizeLine; decide), fun r hr => ?_⟩⟩⟩
    have s7 := same_new ht (.tup (ns.map V.int))
    have s8 := same_new hr (.tup [.int N, .ref t])
    refine q r _ (sm.trans (s6.trans (s7.trans s8))) ⟨t, upd_same, s8 _ _ ?_⟩
    rw [upd_same, BB.wa_is hw ri (fun b => f (way * b)) (fun b _ => hf0 (way * b)) pm le]
end
end K64
end
section
namespace K64
open PySem PySem.Spec PyProof.Rows L2
set_option maxHeartbeats 4000000
set_option maxRecDepth 100000
set_option Elab.async false
set_option linter.unusedVariables false
def Rnd (N : Int) (bs : List Int) (m : Nat) : Prop := 1 ≤ m ∧ BB.itR N m bs = bs ∧ ∀ j, 1 ≤ j → j < m → BB.itR N j bs ≠ bs
def spRo : Sp := fun vs H Q _ => ∃ (a : Addr) (N : Int) (bs : List Int) (m : Nat), vs = [.ref a] ∧ RgAt H a N bs ∧ BB.Ring N bs ∧ N ≤ 14 ∧ Rnd N bs m ∧
  ∀ (H' : Hp), Same H H' → Q (.int (m : Int)) H'
def st1 (σ : L2.St) : Int := match σ[1]? with
  | some (some (V.int i)) => i
  | _ => 0
section
variable {P : Program} {w : World} {K : PySem.W.Frag} {mg : Str → Option Value} {base : Heap}
set_option maxRecDepth 100000 in
theorem ok_round_of {f : Addr} {fd : FuncData} (F : Fun K "round_of" "round_of" s_round_of f fd) (nb : Nb3 mg) (h_ring_carried : Has P w K mg base 2 "ring_carried" ["ring"] spRc)  :
    FnOk P w K mg base CX0 3 f fd ["ring"] spRo := by
  have nd := sc_round_of.nd
  refine F.ok (k := 2) sc_round_of (fun vs H Q E h => ?_) (fun cdv A outer s H vs Q E hr h => ?_)
  · obtain ⟨a, N, bs, m, rfl, _⟩ := h
    rfl
  obtain ⟨a, N, bs, m, rfl, hR, ri, n14, hm, q⟩ := h
  refine ⟨_, (pss_cons (ps_set (i := 1) nd rfl (Or.inl rfl) pe_int)
(pss_cons (ps_set (i := 2) nd rfl (Or.inl rfl) (pe_def h_ring_carried hr (pa_cons (pv 0) pa_nil)))
(pss_cons (ps_while PassesOwn.never (pt_cmpR (op_neR (hu1 hr)) (pv 2) (pv 0) (nomark _))
(pss_cons (ps_set (i := 2) nd rfl (Or.inl rfl) (pe_def h_ring_carried hr (pa_cons (pv 2) pa_nil)))
(pss_one (ps_aug (i := 1) nd rfl (Or.inl rfl) pe_int ip_add))))
(pss_one (ps_ret (pv 1)))))), ?_⟩
  obtain ⟨m1, m2, m3⟩ := hm
  refine ⟨_, rfl, a, N, bs, rfl, hR, ri, n14, fun r1 H1 s1 g1 => ?_⟩
  unfold gName
  dsimp only
  refine seq_while ?_
  refine while_by (fun σ H' => Same H H' ∧ ∃ (p : Addr) (j : Nat), σ = [some (.ref a), some (.int (j : Int)), some (.ref p)] ∧ RgAt H' p N (BB.itR N j bs) ∧ 1 ≤ j ∧ j ≤ m) (fun σ _ => m - (st1 σ).toNat) ⟨s1, r1, 1, rfl, g1, Nat.le_refl _, m1⟩ (fun σ H' hp => ?_) (fun σ H Q Q' hq h => ?_)
  · obtain ⟨sm, p, j, rfl, hp, j1, jm⟩ := hp
    refine ⟨_, rfl, _, rfl, p, a, N, N, _, bs, rfl, rfl, hp, hR.same sm, _, rfl, ?_⟩
    by_cases c : BB.itR N j bs = bs
    · have ej : j = m := by
        rcases Nat.lt_or_ge j m with z | z
        · exact absurd c (m3 j j1 z)
        · omega
      rw [decide_eq_true ⟨rfl, c⟩]
      subst ej
      exact iteF ⟨_, rfl, q H' sm⟩
    · have jl : j < m := by
        rcases Nat.lt_or_ge j m with z | z
        · exact z
        · have : j = m := by omega
          exact absurd (this ▸ m2) c
      rw [decide_eq_false fun z => c z.2]
      refine iteT ⟨_, rfl, p, N, _, rfl, hp, BB.itR_ring ri j, n14, fun r2 H2 s2 g2 => ?_⟩
      refine ⟨_, rfl, _, _, rfl, rfl, ?_⟩
      refine ⟨⟨sm.trans s2, r2, j + 1, ?_, g2, by omega, jl⟩, ?_⟩
      · rw [show ((j + 1 : Nat) : Int) = (j : Int) + 1 by omega]
        rfl
      · show m - ((j : Int) + 1).toNat < m - ((j : Int)).toNat
        omega
  · obtain ⟨v, e, v2, e2, p, q', n, n', ms, ms', e3, e4, g1, g2, k, e5, q2⟩ := h
    exact ⟨v, e, v2, e2, p, q', n, n', ms, ms', e3, e4, g1, g2, k, e5, hq _ _ q2⟩
end
end K64
end
section
namespace K64
open PySem PySem.Spec PyProof.Rows L2
set_option maxHeartbeats 4000000
set_option maxRecDepth 100000
set_option Elab.async false
set_option linter.unusedVariables false
def spWays : Sp := fun vs H Q _ => ∃ (N k : Nat), vs = [.int (N : Int), .int (k : Int)] ∧ N ≤ 10 ∧ k ≤ 10 ∧
  ∀ (l : Addr) (H' : Hp), Same H H' → TL H' l ((BB.waysL N k).map (·.map V.int)) → Q (.ref l) H'
theorem at_last {ns : List Int} {q : Int} (h : ns.getLast? = some q) : atI (ns.map V.int) (-1) = some (.int q) := by
  have ne : ns ≠ [] := fun z => by rw [z] at h; cases h
  have l0 : 0 < ns.length := List.length_pos_iff.mpr ne
  have e : ixN (ns.map V.int).length (-1) = some (ns.length - 1) := by
    unfold ixN
    rw [List.length_map, if_neg (by decide), if_pos (by omega)]
    congr 1
    omega
  unfold atI
  rw [e]
  show (ns.map V.int)[ns.length - 1]? = _
  rw [List.getElem?_map]
  rw [List.getLast?_eq_getElem?] at h
  rw [h]
  rfl
theorem flat_take (L : List (List Int)) (g : List Int → List (List Int)) (m : List Int → List V) : ∀ j, j ≤ L.length → (List.range j).flatMap (fun j => (g (L.getD j [])).map m) = ((L.take j).flatMap g).map m
  | 0, _ => rfl
  | j + 1, h => by
    rw [List.range_succ, List.flatMap_append, flat_take L g m j (by omega), List.flatMap_singleton, List.take_succ, List.flatMap_append, List.map_append, List.getElem?_eq_getElem (by omega), List.getD_eq_getElem?_getD, List.getElem?_eq_getElem (by omega)]
    congr 1
    show _ = List.map m ([L[j]].flatMap g)
    rw [List.flatMap_singleton]
    rfl
theorem nxt_rd {K : PySem.W.Frag} {a : Addr} {w : List Int} {H : Hp} {σ : L2.St} {Q : VK} (h0 : σ[0]? = some (some (.ref a))) (ha : H a = some (.tup (w.map V.int))) (q : Q (.int (BB.nxt w)) H) :
    tIf (fun σ H Q => tVar 0 σ H fun x H' => ∃ k, TruV K x H' k ∧ Q k H') (tOp (rI0 fun i j => V.int (i + j)) (tOp (rIxT K) (tVar 0) (tUn (rU fun i => V.int (-i)) (tC (V.int 1)))) (tC (V.int 1))) (tC (V.int 0)) σ H Q := by
  refine ⟨_, h0, !(w.map V.int).isEmpty, .inr (.inl ⟨_, SqT.of ha, rfl⟩), ?_⟩
  rcases List.eq_nil_or_concat w with rfl | ⟨l, x, rfl⟩
  · exact iteF q
  · rw [List.concat_eq_append] at ha q ⊢
    rw [BB.nxt_last] at q
    have e : (!((l ++ [x]).map V.int).isEmpty) = true := by simp
    rw [e]
    refine iteT ⟨_, h0, _, rfl, a, _, _, .int x, rfl, rfl, SqT.of ha, at_last (by simp), _, _, rfl, rfl, q⟩
section
variable {P : Program} {w : World} {K : PySem.W.Frag} {mg : Str → Option Value} {base : Heap}
set_option maxRecDepth 100000 in
theorem ok_ways {f : Addr} {fd : FuncData} (F : Fun K "ways" "ways" s_ways f fd) (nb : Nb mg)   :
    FnOk P w K mg base CX0 1 f fd ["boxes", "balls"] spWays := by
  have nd := sc_ways.nd
  refine F.ok (k := 0) sc_ways (fun vs H Q E h => ?_) (fun cdv A outer s H vs Q E hr h => ?_)
  · obtain ⟨N, k, rfl, _⟩ := h
    rfl
  obtain ⟨N, k, rfl, N10, k10, q⟩ := h
  refine ⟨_, (pss_cons (ps_set (i := 2) nd rfl (Or.inl rfl) (pe_lst (pa_cons (pe_tup pa_nil) pa_nil)))
(pss_cons (ps_for PassesOwn.never rfl (pi_range1 rfl nb.range (pa_cons (pv 1) pa_nil)) (pg_name (i := 3) nd rfl (Or.inl rfl))
(pss_one (ps_compO1 (ii := 2) nd rfl (Or.inl rfl) (sc := defScope s_ways) (N0 := ["boxes", "balls", "laid", "turn"]) (N := ["boxes"]) (js := [0]) rfl rfl rfl (by exact ⟨rfl, by decide +kernel, by decide +kernel, by decide +kernel, rfl, rfl, by decide, by decide +kernel, by decide +kernel⟩) rfl rfl
(pi_list (pv 2))
(fun _ _ _ _ _ => by exact (pi_range2 rfl nb.range (pa_cons (pe_ifExp (pt_truthW K rfl (pv 0) (fun _ => rfl)) (pe_op op_add (pe_ix (show IxR _ (rIxT K) from ix_tup) (pv 0) (pe_un un_neg pe_int) (fun _ _ => rfl)) pe_int) pe_int) (pa_cons (pv 2) pa_nil))))
(fun _ _ _ _ _ => by exact (pe_op (op_catW K rfl) (pv 0) (pe_tup (pa_cons (pv 1) pa_nil)))))))
(pss_one (ps_ret (pv 2))))), ?_⟩
  refine ⟨(by show 0 ≤ sizeLine; decide), fun p0 hp0 => ⟨(by show 1 ≤ sizeLine; decide), fun l0 hl0 => ?_⟩⟩
  have s0 := (same_new hp0 (.tup [])).trans (same_new hl0 (.lst [.ref p0]))
  have t0 : TL (upd (upd H p0 (.tup [])) l0 (.lst [.ref p0])) l0 ((BB.waysL N 0).map (·.map V.int)) := ⟨[.ref p0], upd_same, rfl, fun j y e => by
    match j, e with
    | 0, e => cases e; exact ⟨p0, rfl, same_new hl0 _ _ _ upd_same⟩⟩
  generalize upd (upd H p0 (.tup [])) l0 (.lst [.ref p0]) = H1 at s0 t0 ⊢
  refine ⟨_, rfl, (k : Int), rfl, by omega, by omega, ?_⟩
  refine for_range (fun i σ H' => ∃ (l : Addr) (o3 : Option V), σ = [some (.int (N : Int)), some (.int (k : Int)), some (.ref l), o3] ∧ Same H H' ∧ TL H' l ((BB.waysL N i).map (·.map V.int))) ⟨l0, _, rfl, s0, t0⟩ (fun i σ H' hi hp => ?_) (fun σ H' hp => ?_)
  · obtain ⟨l, o3, rfl, sm, tl⟩ := hp
    have hik : i < k := by omega
    have tl0 := tl
    obtain ⟨ys, hl, hlen, hy⟩ := tl
    rw [List.length_map] at hlen
    refine ⟨_, rfl, l, rfl, ⟨_, SqL.of hl⟩, fun D hD => ?_⟩
    refine out_tups ys.length (fun j => (BB.wayF N ((BB.waysL N i).getD j [])).map (·.map V.int)) (fun σ => ∃ o1 o2, σ = [o1, o2, some (.int (N : Int))]) (fun j H2 x => ys[j]? = some x) (fun j hj => ?_) hD ⟨_, _, rfl⟩ (fun j H2 s2 => items_lst hl j H2 s2) (fun j x σ' H2 pre hj s2 im hσ tp hz N' hN => ?_) (fun H2 s2 t2 => ?_)
    · rw [flat_take _ _ _ j (by omega), List.length_map, sizeLine_eq]
      have := BB.part_ways N10 (show i + 1 ≤ 10 by omega) j
      omega
    · obtain ⟨o1, o2, rfl⟩ := hσ
      obtain ⟨pw, rfl, hpw⟩ := hy j x im
      have hj' : j < (BB.waysL N i).length := by omega
      have wm : (BB.waysL N i).getD j [] ∈ BB.waysL N i := by
        rw [List.getD_eq_getElem?_getD, List.getElem?_eq_getElem hj']
        exact List.getElem_mem hj'
      have wy := BB.mem_ways.mp wm
      rw [List.getD_eq_getElem?_getD, List.getElem?_map, List.getElem?_eq_getElem hj'] at hpw
      have hpw : H' pw = some (.tup (((BB.waysL N i).getD j []).map V.int)) := by
        rw [hpw, List.getD_eq_getElem?_getD, List.getElem?_eq_getElem hj']
        rfl
      generalize (BB.waysL N i).getD j [] = w at wy hpw hz hN
      obtain ⟨n0, n1, n2⟩ := BB.nxt_bd wy
      have hpw2 := s2 _ _ hpw
      have wl := wy.len
      refine nxt_rd rfl hpw2 ⟨_, rfl, _, _, rfl, ⟨by omega, by omega, by omega, by omega⟩, ?_⟩
      have en : ((N : Int) - BB.nxt w).toNat = N - (BB.nxt w).toNat := by omega
      rw [en]
      refine deep_tups (N - (BB.nxt w).toNat) (fun i => (w ++ [BB.nxt w + (i : Int)]).map V.int) pre (fun σ => ∃ o2, σ = [some (.ref pw), o2, some (.int (N : Int))]) (fun i H3 x => x = .int (BB.nxt w + (i : Int))) tp (by rw [List.length_map] at hz; unfold BB.wayF at hz; simpa [BB.row] using hz) ⟨_, rfl⟩ (fun i H3 b3 => items_rng (BB.nxt w) _ i H3 (Same.refl _)) (fun i x σ' H3 hi b3 im hσ R hR => ?_) (fun σ' H3 hσ b3 t3 => ?_)
      · obtain ⟨o2, rfl⟩ := hσ
        subst im
        have pD : pw ≠ D := fun z => by
          obtain ⟨zs, hzs, _⟩ := tp
          rw [← z, hpw2] at hzs
          cases hzs
        have hpw3 := b3 _ _ pD hpw2
        refine ⟨_, rfl, _, rfl, (by show 1 ≤ sizeLine; decide), fun p hp => ?_⟩
        have s4 := same_new hp (.tup [.int (BB.nxt w + (i : Int))])
        refine ⟨pw, p, _, _, rfl, rfl, s4 _ _ hpw3, upd_same, by rw [List.length_map, sizeLine_eq, wl]; simp; omega, fun p5 H5 s5 h5 => hR _ _ _ ⟨_, rfl⟩ (s4.trans s5) ?_⟩
        rw [h5, List.map_append]
        rfl
      · obtain ⟨o2, rfl⟩ := hσ
        refine hN _ _ ⟨_, _, rfl⟩ b3 ?_
        have e : (List.range (N - (BB.nxt w).toNat)).map (fun (i : Nat) => (w ++ [BB.nxt w + (i : Int)]).map V.int) = (BB.wayF N w).map (·.map V.int) := by
          unfold BB.wayF BB.row
          rw [List.map_map, List.map_map]
          rfl
        rw [← e]
        exact t3
    · rw [flat_take _ _ _ _ (by omega), hlen, List.take_length] at t2
      exact ⟨D, _, rfl, sm.trans s2, t2⟩
  · obtain ⟨l, o3, rfl, sm, tl⟩ := hp
    rw [Int.toNat_natCast] at tl
    exact ⟨_, rfl, q l H' sm tl⟩
end
end K64
end
section
namespace K64
open PySem PySem.Spec PyProof.Rows L2
set_option maxHeartbeats 4000000
set_option maxRecDepth 100000
set_option Elab.async false
set_option linter.unusedVariables false
structure Nb4 (mg : Str → Option Value) : Prop extends Nb3 mg where
  sum : mg "sum" = none
  verr : mg "ValueError" = none
theorem boot_VErr : bootBuiltins "ValueError" = some (.type "ValueError") := by decide +kernel
/-- the classes of refusals: b their base -/
structure Errs (K : PySem.W.Frag) (mg : Str → Option Value) (b c0 c1 c2 c3 c4 : Addr) : Prop where
  mb : mg "BallError" = some (.ref b)
  m0 : mg "NoNumber" = some (.ref c0)
  m1 : mg "NotFree" = some (.ref c1)
  m2 : mg "TooLong" = some (.ref c2)
  m3 : mg "NoRow" = some (.ref c3)
  m4 : mg "BadNote" = some (.ref c4)
  eb : ∃ bm, Exc K b bm
/-- C is the i-th of them -/
structure Kind5 (K : PySem.W.Frag) (c0 c1 c2 c3 c4 C : Addr) (i : Nat) : Prop where
  k0 : PySem.W.kitOne K (.ref C) (.ref c0) = some (decide (0 = i))
  k1 : PySem.W.kitOne K (.ref C) (.ref c1) = some (decide (1 = i))
  k2 : PySem.W.kitOne K (.ref C) (.ref c2) = some (decide (2 = i))
  k3 : PySem.W.kitOne K (.ref C) (.ref c3) = some (decide (3 = i))
  k4 : PySem.W.kitOne K (.ref C) (.ref c4) = some (decide (4 = i))
  kv : PySem.W.kitOne K (.ref C) (.type "ValueError") = some true
  lt : i < 5
def nameOf (i : Nat) : Str := (["number", "not free", "long", "row", "note"] : List Str).getD i ""
abbrev Rn : VK → VK := fun Q _ H1 => Q .non H1
def Ec (K : PySem.W.Frag) (b c0 c1 c2 c3 c4 : Addr) : VK → XK := fun Q c ea H1 => ∃ C bm e i, c = .ref C ∧ ea = some e ∧ H1 e = none ∧ ExcF K C bm ∧ (Value.ref C :: bm).contains (.ref b) = true ∧ Kind5 K c0 c1 c2 c3 c4 C i ∧
  ∀ H2, Same (upd H1 e (ExcO e C)) H2 → Q (.str (nameOf i)) H2
theorem runs_imp {P : Program} {w : World} {K : PySem.W.Frag} {mg : Str → Option Value} {base : Heap} {k : Nat} {f : Addr} {H : Hp} {Q Q' : VK} {E E' : XK} (r : Runs P w K mg base k f H Q E) (hq : ∀ v H1, Q v H1 → Q' v H1) (he : ∀ c a H1, E c a H1 → E' c a H1) :
    Runs P w K mg base k f H Q' E' := fun A outer s hr e0 => codeAny_mono (r A outer s hr e0) fun rs s' h => by
  cases rs with
  | error e => obtain ⟨a, c, H1, e1, F, q⟩ := h; exact ⟨a, c, H1, e1, F, he _ _ _ q⟩
  | ok fl =>
    cases fl with
    | ret u => obtain ⟨v, H1, a, b, c, d, e, q⟩ := h; exact ⟨v, H1, a, b, c, d, e, hq _ _ q⟩
    | next => exact h
    | brk => exact h
    | cont => exact h
section
variable {P : Program} {w : World} {K : PySem.W.Frag} {mg : Str → Option Value} {base : Heap} {b c0 c1 c2 c3 c4 : Addr}
set_option maxRecDepth 100000 in
theorem ok_L_refused {f : Addr} {fd : FuncData} (F : Fun K "_law_refused" "_law_refused" s_L_refused f fd) (nb : Nb4 mg)   (er : Errs K mg b c0 c1 c2 c3 c4) :
    FnOk P w K mg base CX0 6 f fd ["_law_call"] (spRef P w K mg base 5 Rn (Ec K b c0 c1 c2 c3 c4)) := by
  have nd := sc_L_refused.nd
  refine F.ok (k := 5) sc_L_refused (fun vs H Q E h => ?_) (fun cdv A outer s H vs Q E hr h => ?_)
  · obtain ⟨f, o, fd, rfl, _⟩ := h
    rfl
  obtain ⟨f0, o, fd0, rfl, hf, hd, run⟩ := h
  obtain ⟨bm, eb⟩ := er.eb
  have c_NoNumber : ∃ u, mg "NoNumber" = some u ∧ RelV (.ref c0) u := ⟨_, er.m0, rfl⟩
  have c_NotFree : ∃ u, mg "NotFree" = some u ∧ RelV (.ref c1) u := ⟨_, er.m1, rfl⟩
  have c_TooLong : ∃ u, mg "TooLong" = some u ∧ RelV (.ref c2) u := ⟨_, er.m2, rfl⟩
  have c_NoRow : ∃ u, mg "NoRow" = some u ∧ RelV (.ref c3) u := ⟨_, er.m3, rfl⟩
  have c_BadNote : ∃ u, mg "BadNote" = some u ∧ RelV (.ref c4) u := ⟨_, er.m4, rfl⟩
  refine ⟨_, (pss_cons (ps_set (i := 1) nd rfl (Or.inl rfl) pe_non)
(pss_cons (ps_try (k := 2) ⟨rfl, rfl, rfl⟩ nd rfl rfl rfl er.mb eb (pb_call (i := 0) hr rfl rfl) (fun A E => by exact (pss_one (ps_set (i := 1) nd rfl (Or.inl rfl) (pv 2)))))
(pss_cons (ps_if (pt_cmpR op_isN (pv 1) pe_non (nomark _))
(pss_one (ps_ret pe_non))
pss_nil)
(pss_cons (ps_set (i := 3) nd rfl (Or.inl rfl) (pe_lst (pa_cons (pe_callB call_isiE rfl nb.isi boot_isinstance (pa_cons (pv 1) (pa_cons (pe_const c_NoNumber) pa_nil))) (pa_cons (pe_callB call_isiE rfl nb.isi boot_isinstance (pa_cons (pv 1) (pa_cons (pe_const c_NotFree) pa_nil))) (pa_cons (pe_callB call_isiE rfl nb.isi boot_isinstance (pa_cons (pv 1) (pa_cons (pe_const c_TooLong) pa_nil))) pa_nil)))))
(pss_cons (ps_set (i := 3) nd rfl (Or.inl rfl) (pe_op op_cat (pv 3) (pe_lst (pa_cons (pe_callB call_isiE rfl nb.isi boot_isinstance (pa_cons (pv 1) (pa_cons (pe_const c_NoRow) pa_nil))) (pa_cons (pe_callB call_isiE rfl nb.isi boot_isinstance (pa_cons (pv 1) (pa_cons (pe_const c_BadNote) pa_nil))) pa_nil)))))
(pss_cons (ps_if (PW.pt (pw_or (pt_not (pt_truth (pe_callB call_isiE rfl nb.isi boot_isinstance (pa_cons (pv 1) (pa_cons (pe_ty nb.verr boot_VErr) pa_nil))) (fun _ => rfl))) (pw_or1 (pt_cmpR op_ne (pe_callB (call_sumI rfl) rfl nb.sum boot_sum (pa_cons (pe_comp1 (sc := defScope s_L_refused) (N0 := ["_law_call", "_law_error", "e", "_law_sorts"]) (N := []) (js := []) rfl rfl rfl (by exact ⟨rfl, by decide +kernel, by decide +kernel, by decide +kernel, rfl, rfl, by decide, by decide +kernel, by decide +kernel⟩) rfl
(pi_list (pv 3))
(fun _ _ _ _ _ => by exact pts_nil)
(fun _ _ _ _ _ => by exact (pe_callTy call_int1 rfl nb.int boot_int (pa_cons (pv 0) pa_nil)))) pa_nil)) pe_int (nomark _)))))
(pss_one (ps_ret pe_str))
pss_nil)
(pss_one (ps_ret (pe_ix ix_list (pe_lst (pa_cons pe_str (pa_cons pe_str (pa_cons pe_str (pa_cons pe_str (pa_cons pe_str pa_nil)))))) (pe_bm PySem.F.plainAttrs_list PySem.F.slot_list_index PySem.F.type_list_index mt_indexT (pv 3) (pa_cons pe_bl pa_nil)) (fun _ _ => rfl)))))))))), ?_⟩
  refine ⟨f0, o, fd0, rfl, hf, hd, runs_imp run (fun v H1 q => ?_) (fun c ea H1 q => ?_)⟩
  · exact ⟨_, rfl, rfl, _, rfl, iteT q⟩
  obtain ⟨C, bm2, e, i, rfl, rfl, he, ex, hin, kd, q⟩ := q
  refine ⟨C, bm2, e, rfl, rfl, ex, hin, _, rfl, ?_⟩
  have hE : (upd H1 e (ExcO e C)) e = some (ExcO e C) := upd_same
  generalize upd H1 e (ExcO e C) = G at hE q ⊢
  refine ⟨_, rfl, rfl, _, rfl, iteF ?_⟩
  refine ⟨_, rfl, e, C, bm2, _, _, rfl, hE, ex, .inl ⟨c0, rfl, kd.k0⟩, _, rfl, e, C, bm2, _, _, rfl, hE, ex, .inl ⟨c1, rfl, kd.k1⟩, _, rfl, e, C, bm2, _, _, rfl, hE, ex, .inl ⟨c2, rfl, kd.k2⟩, (by show 3 ≤ sizeLine; decide), fun p1 hp1 => ?_⟩
  have s1 := same_new hp1 (.lst [.bl (decide (0 = i)), .bl (decide (1 = i)), .bl (decide (2 = i))])
  refine ⟨_, rfl, _, rfl, e, C, bm2, _, _, rfl, (s1 _ _ hE), ex, .inl ⟨c3, rfl, kd.k3⟩, _, rfl, e, C, bm2, _, _, rfl, (s1 _ _ hE), ex, .inl ⟨c4, rfl, kd.k4⟩, (by show 2 ≤ sizeLine; decide), fun p2 hp2 => ?_⟩
  have s2 := same_new hp2 (.lst [.bl (decide (3 = i)), .bl (decide (4 = i))])
  refine ⟨p1, p2, _, _, rfl, rfl, s2 _ _ upd_same, upd_same, (by show 5 ≤ sizeLine; decide), fun p3 hp3 => ?_⟩
  have s3 := same_new hp3 (.lst ([.bl (decide (0 = i)), .bl (decide (1 = i)), .bl (decide (2 = i))] ++ [.bl (decide (3 = i)), .bl (decide (4 = i))]))
  have h3 : (upd (upd (upd G p1 (.lst [.bl (decide (0 = i)), .bl (decide (1 = i)), .bl (decide (2 = i))])) p2 (.lst [.bl (decide (3 = i)), .bl (decide (4 = i))])) p3 (.lst ([.bl (decide (0 = i)), .bl (decide (1 = i)), .bl (decide (2 = i))] ++ [.bl (decide (3 = i)), .bl (decide (4 = i))]))) p3 = some (.lst ([decide (0 = i), decide (1 = i), decide (2 = i), decide (3 = i), decide (4 = i)].map V.bl)) := upd_same
  have s123 := s1.trans (s2.trans s3)
  generalize (upd (upd (upd G p1 (.lst [.bl (decide (0 = i)), .bl (decide (1 = i)), .bl (decide (2 = i))])) p2 (.lst [.bl (decide (3 = i)), .bl (decide (4 = i))])) p3 (.lst ([.bl (decide (0 = i)), .bl (decide (1 = i)), .bl (decide (2 = i))] ++ [.bl (decide (3 = i)), .bl (decide (4 = i))]))) = G3 at h3 s123 ⊢
  have hE3 := s123 _ _ hE
  refine ⟨_, rfl, e, C, bm2, _, _, rfl, hE3, ex, .inr ⟨"ValueError", rfl, kd.kv⟩, _, rfl, iteF ?_⟩
  generalize hbs : [decide (0 = i), decide (1 = i), decide (2 = i), decide (3 = i), decide (4 = i)] = bs at h3
  have l5 : bs.length = 5 := by rw [← hbs]; rfl
  refine ⟨_, rfl, p3, rfl, ⟨_, SqL.of h3⟩, fun D hD => ?_⟩
  refine comp_go 5 (by decide) (fun j => .int (if bs.getD j false then 1 else 0)) (fun σ => ∃ o1, σ = [o1]) _ hD (by exact ⟨_, rfl⟩) (by have := items_lst (K := K) h3; rw [List.length_map, l5] at this; exact this) (fun j x σ' H2 hi s4 im hσ R hR => ?_) (fun H' s' hD' => ?_)
  · obtain ⟨o1, rfl⟩ := hσ
    rw [List.getElem?_map, List.getElem?_eq_getElem (show j < bs.length by omega)] at im
    have ev : x = .bl (bs.getD j false) := by
      have z := Option.some.inj im
      rw [← z]
      simp [List.getD_eq_getElem?_getD, List.getElem?_eq_getElem (show j < bs.length by omega)]
    subst ev
    exact ⟨_, rfl, .inr ⟨_, rfl, hR _ _ _ ⟨_, rfl⟩ (Same.refl _) rfl⟩⟩
  · have h3' := s' _ _ h3
    have sm := s123.trans s'
    have e1 : ((List.range 5).map fun j => V.int (if bs.getD j false then 1 else 0)) = ((List.range 5).map fun j => if bs.getD j false then (1 : Int) else 0).map V.int := by rw [List.map_map]; rfl
    have i5 : i = 0 ∨ i = 1 ∨ i = 2 ∨ i = 3 ∨ i = 4 := by have := kd.lt; omega
    have e2 : ((List.range 5).map fun j => if bs.getD j false then (1 : Int) else 0).sum = 1 := by
      rw [← hbs]
      rcases i5 with rfl | rfl | rfl | rfl | rfl <;> decide
    have e3 : bs[i]? = some true ∧ ∀ j, j < i → bs[j]? = some false := by
      rw [← hbs]
      rcases i5 with rfl | rfl | rfl | rfl | rfl <;> decide
    refine ⟨D, _, rfl, SqL.of (hD'.trans (by rw [e1])), ?_⟩
    refine ⟨rfl, _, rfl, iteNS (congrArg V.int e2) ?_⟩
    have e4 : atI [V.str "number", V.str "not free", V.str "long", V.str "row", V.str "note"] ((i : Nat) : Int) = some (.str (nameOf i)) := by
      rcases i5 with rfl | rfl | rfl | rfl | rfl <;> exact atI_nat rfl
    refine ⟨(by show 5 ≤ sizeLine; decide), fun pn hpn => ?_⟩
    have s5 := same_new hpn (.lst [.str "number", .str "not free", .str "long", .str "row", .str "note"])
    exact ⟨_, rfl, .inl ⟨rfl, _, SqL.of (s5 _ _ h3')⟩, p3, bs, i, rfl, rfl, s5 _ _ h3', e3.1, e3.2, pn, _, _, _, rfl, rfl, SqL.of upd_same, e4, q _ (sm.trans s5)⟩
end
end K64
end
section
/-! Rounds of rings of ten boxes and fewer, looked at one by one; orbits. -/
namespace BB
set_option linter.all false
set_option maxRecDepth 100000
/-- how many steps, as far as it is looked -/
def rnT (N : Int) (bs : List Int) : Nat → Nat → List Int → Nat
  | 0, _, _ => 0
  | f + 1, m, cur => if cur = bs then m else rnT N bs f (m + 1) (rUp N cur)
/-- the round of a ring -/
def rof (N : Int) (bs : List Int) : Nat := rnT N bs 50 1 (rUp N bs)
def Rou (N : Int) (bs : List Int) (m : Nat) : Prop := 1 ≤ m ∧ itR N m bs = bs ∧ ∀ j, 1 ≤ j → j < m → itR N j bs ≠ bs
theorem rnT_is {N : Int} {bs : List Int} : ∀ (f m : Nat), 1 ≤ m → (∀ j, 1 ≤ j → j < m → itR N j bs ≠ bs) → rnT N bs f m (itR N m bs) ≠ 0 → Rou N bs (rnT N bs f m (itR N m bs))
  | 0, _, _, _, h => absurd rfl h
  | f + 1, m, m1, no, h => by
    unfold rnT at h ⊢
    by_cases c : itR N m bs = bs
    · rw [if_pos c]
      exact ⟨m1, c, no⟩
    · rw [if_neg c] at h ⊢
      refine rnT_is f (m + 1) (by omega) (fun j j1 jl => ?_) h
      by_cases e : j = m
      · rw [e]; exact c
      · exact no j j1 (by omega)
theorem rof_is {N : Int} {bs : List Int} (h : rof N bs ≠ 0) : Rou N bs (rof N bs) := rnT_is 50 1 (Nat.le_refl 1) (fun j j1 jl => by omega) h
theorem rnT_le {N : Int} {bs : List Int} : ∀ (f m : Nat) (cur : List Int), rnT N bs f m cur ≤ m + f
  | 0, m, cur => Nat.zero_le _
  | f + 1, m, cur => by
    unfold rnT
    split
    · omega
    · have := rnT_le (N := N) (bs := bs) f (m + 1) (rUp N cur)
      omega
theorem rof_le {N : Int} {bs : List Int} : rof N bs ≤ 51 := rnT_le 50 1 _
def rofL (N k : Nat) : List Nat := (waysL N k).map (rof (N : Int))
def chT (N k : Nat) : Bool := (rofL N k).all (· != 0)
/-- a part of them -/
def chP (a b N k : Nat) : Bool := (((waysL N k).drop a).take b).all fun w => rof (N : Int) w != 0
theorem look8 : (List.range 9).all (fun N => (List.range ((N + 1) / 2)).all (chT N)) = true := by decide +kernel
theorem look9 : (List.range 4).all (chT 9) = true := by decide +kernel
theorem look94 : chT 9 4 = true := by decide +kernel
theorem look10 : (List.range 3).all (chT 10) = true := by decide +kernel
theorem look103 : chT 10 3 = true := by decide +kernel
theorem look104 : chP 0 70 10 4 = true := by decide +kernel
theorem look105 : chP 70 70 10 4 = true := by decide +kernel
theorem look106 : chP 140 70 10 4 = true := by decide +kernel
theorem many104 : (waysL 10 4).length ≤ 210 := by decide +kernel
theorem ch_at {N k : Nat} (a : chT N k = true) {w : List Int} (hw : w ∈ waysL N k) : rof (N : Int) w ≠ 0 :=
  bne_iff_ne.mp (List.all_eq_true.mp a (rof (N : Int) w) (List.mem_map_of_mem hw))
theorem rof_ne {N k : Nat} (h : N ≤ 10) (hk : k < (N + 1) / 2) {w : List Int} (hw : w ∈ waysL N k) : rof (N : Int) w ≠ 0 := by
  by_cases c8 : N < 9
  · exact ch_at (List.all_eq_true.mp (List.all_eq_true.mp look8 N (List.mem_range.mpr c8)) k (List.mem_range.mpr hk)) hw
  · by_cases c9 : N = 9
    · subst c9
      by_cases c4 : k = 4
      · subst c4
        exact ch_at look94 hw
      · exact ch_at (List.all_eq_true.mp look9 k (List.mem_range.mpr (by omega))) hw
    · obtain rfl : N = 10 := by omega
      by_cases c3 : k < 3
      · exact ch_at (List.all_eq_true.mp look10 k (List.mem_range.mpr c3)) hw
      · by_cases e3 : k = 3
        · subst e3
          exact ch_at look103 hw
        · obtain rfl : k = 4 := by omega
          obtain ⟨i, hi, e⟩ := List.getElem_of_mem hw
          have part : ∀ a, chP a 70 10 4 = true → a ≤ i → i < a + 70 → rof ((10 : Nat) : Int) w ≠ 0 := fun a ha h1 h2 => by
            have m : w ∈ ((waysL 10 4).drop a).take 70 := by
              refine List.mem_of_getElem? (i := i - a) ?_
              rw [List.getElem?_take_of_lt (by omega), List.getElem?_drop, show a + (i - a) = i by omega, List.getElem?_eq_getElem hi, e]
            exact bne_iff_ne.mp (List.all_eq_true.mp ha w m)
          have := many104
          by_cases i1 : i < 70
          · exact part 0 look104 (by omega) (by omega)
          · by_cases i2 : i < 140
            · exact part 70 look105 (by omega) (by omega)
            · exact part 140 look106 (by omega) (by omega)
theorem rou_uniq {N : Int} {bs : List Int} {m n : Nat} (hm : Rou N bs m) (hn : Rou N bs n) : m = n := by
  rcases Nat.lt_trichotomy m n with c | c | c
  · exact absurd hm.2.1 (hn.2.2 m hm.1 c)
  · exact c
  · exact absurd hn.2.1 (hm.2.2 n hn.1 c)
end BB
end
section
/-! Orbits of rings. -/
namespace BB
set_option linter.all false
theorem it_add {N : Int} {b : List Int} : ∀ (i j : Nat), itR N (i + j) b = itR N i (itR N j b)
  | 0, j => by rw [Nat.zero_add]; rfl
  | i + 1, j => by
    rw [show i + 1 + j = (i + j) + 1 by omega]
    show rUp N (itR N (i + j) b) = rUp N (itR N i (itR N j b))
    rw [it_add i j]
/-- all of a round have it -/
theorem Rou.it {N : Int} {b : List Int} {m : Nat} (h : Rou N b m) {j : Nat} (hj : j < m) : Rou N (itR N j b) m := by
  obtain ⟨m1, m2, m3⟩ := h
  refine ⟨m1, by rw [← it_add, Nat.add_comm, it_add, m2], fun i i1 im e => m3 i i1 im ?_⟩
  have a := congrArg (itR N (m - j)) e
  rw [← it_add, ← it_add, ← it_add, show m - j + i + j = i + m by omega, show m - j + j = m by omega, it_add, m2] at a
  exact a
theorem Rou.unlike {N : Int} {b : List Int} {m : Nat} (h : Rou N b m) {i j : Nat} (hij : i < j) (hj : j < m) : itR N i b ≠ itR N j b := fun e => by
  have c := h.it (j := i) (by omega)
  have a : itR N (j - i) (itR N i b) = itR N i b := by rw [← it_add, show j - i + i = j by omega]; exact e.symm
  exact c.2.2 (j - i) (by omega) (by omega) a
/-- the round of b, as a list -/
def orb (N : Int) (b : List Int) (n : Nat) : List (List Int) := (List.range n).map fun i => itR N i b
theorem mem_orb {N : Int} {b c : List Int} {n : Nat} : c ∈ orb N b n ↔ ∃ i, i < n ∧ itR N i b = c := by
  unfold orb
  rw [List.mem_map]
  exact ⟨fun ⟨i, hi, e⟩ => ⟨i, List.mem_range.mp hi, e⟩, fun ⟨i, hi, e⟩ => ⟨i, List.mem_range.mpr hi, e⟩⟩
/-- what lies before a ring of a round lies in it -/
theorem orb_back {N : Int} {b c : List Int} {m n : Nat} (h : Rou N b m) (hc : Rou N c n) (e : rUp N c ∈ orb N b m) : c ∈ orb N b m := by
  obtain ⟨i, hi, ei⟩ := mem_orb.mp e
  obtain ⟨n1, n2, _⟩ := hc
  have a : itR N (n - 1) (rUp N c) = c := by
    have := it_add (N := N) (b := c) (n - 1) 1
    rw [show n - 1 + 1 = n by omega, n2] at this
    exact this.symm
  rw [← ei, ← it_add] at a
  obtain ⟨m1, m2, _⟩ := h
  have red : ∀ q r, itR N (q * m + r) b = itR N r b := fun q r => by
    induction q with
    | zero => rw [Nat.zero_mul, Nat.zero_add]
    | succ q ih => rw [Nat.succ_mul, show q * m + m + r = (q * m + r) + m by omega, it_add, m2, ih]
  refine mem_orb.mpr ⟨(n - 1 + i) % m, Nat.mod_lt _ (by omega), ?_⟩
  rw [← red ((n - 1 + i) / m), Nat.mul_comm, Nat.div_add_mod]
  exact a
end BB
end
section
/-! A round taken out of rings. -/
namespace BB
set_option linter.all false
theorem orb_nodup {N : Int} {b : List Int} {m : Nat} (h : Rou N b m) : ∀ n, n ≤ m → (orb N b n).Nodup := fun n hn => by
  unfold orb
  refine List.pairwise_map.mpr ?_
  refine List.Pairwise.imp_of_mem (R := fun a b => a < b) (fun {i j} _ hj l => h.unlike l (by have := List.mem_range.mp hj; omega)) List.pairwise_lt_range
theorem rou_rof {N : Int} {b : List Int} {m : Nat} (h : Rou N b m) (ne : rof N b ≠ 0) : rof N b = m := rou_uniq (rof_is ne) h
/-- rings that go round among themselves -/
structure Cl (N : Int) (F : List (List Int)) : Prop where
  nd : F.Nodup
  ro : ∀ c ∈ F, rof N c ≠ 0
  up : ∀ c ∈ F, rUp N c ∈ F
theorem Cl.it {N : Int} {F : List (List Int)} (h : Cl N F) {b : List Int} (hb : b ∈ F) : ∀ j, itR N j b ∈ F
  | 0 => hb
  | j + 1 => h.up _ (h.it hb j)
/-- what is left of F when n steps of b's round are out -/
def lft (N : Int) (F : List (List Int)) (b : List Int) (n : Nat) : List (List Int) := F.filter fun c => decide (c ∉ orb N b n)
theorem mem_lft {N : Int} {F : List (List Int)} {b c : List Int} {n : Nat} : c ∈ lft N F b n ↔ c ∈ F ∧ c ∉ orb N b n := by
  unfold lft
  rw [List.mem_filter, decide_eq_true_iff]
theorem lft_zero {N : Int} {F : List (List Int)} {b : List Int} : lft N F b 0 = F := by
  unfold lft
  rw [List.filter_eq_self]
  intro c _
  exact decide_eq_true (by unfold orb; simp)
theorem lft_in {N : Int} {F : List (List Int)} (h : Cl N F) {b : List Int} (hb : b ∈ F) {j : Nat} (hj : j ≤ rof N b) : itR N j b ∈ lft N F b j ↔ j < rof N b := by
  have R := rof_is (h.ro b hb)
  rw [mem_lft]
  constructor
  · rintro ⟨_, no⟩
    refine Nat.lt_of_le_of_ne hj fun e => no ?_
    rw [e, R.2.1]
    exact mem_orb.mpr ⟨0, R.1, rfl⟩
  · intro l
    refine ⟨h.it hb j, fun z => ?_⟩
    obtain ⟨i, hi, e⟩ := mem_orb.mp z
    exact R.unlike hi l e
theorem lft_succ {N : Int} {F : List (List Int)} {b : List Int} {j : Nat} : lft N F b (j + 1) = (lft N F b j).filter fun c => decide (c ≠ itR N j b) := by
  unfold lft
  rw [List.filter_filter]
  refine List.filter_congr fun c _ => ?_
  rw [Bool.eq_iff_iff, decide_eq_true_iff, Bool.and_eq_true, decide_eq_true_iff, decide_eq_true_iff, mem_orb, mem_orb]
  constructor
  · exact fun h => ⟨fun e => h ⟨j, by omega, e.symm⟩, fun ⟨i, hi, e⟩ => h ⟨i, by omega, e⟩⟩
  · rintro ⟨h1, h2⟩ ⟨i, hi, e⟩
    by_cases z : i = j
    · exact h1 (z ▸ e.symm)
    · exact h2 ⟨i, by omega, e⟩
theorem lft_cl {N : Int} {F : List (List Int)} (h : Cl N F) {b : List Int} (hb : b ∈ F) : Cl N (lft N F b (rof N b)) := by
  refine ⟨h.nd.filter _, fun c hc => h.ro c (mem_lft.mp hc).1, fun c hc => ?_⟩
  obtain ⟨c1, c2⟩ := mem_lft.mp hc
  exact mem_lft.mpr ⟨h.up c c1, fun z => c2 (orb_back (rof_is (h.ro b hb)) (rof_is (h.ro c c1)) z)⟩
theorem lft_count {N : Int} {F : List (List Int)} (h : Cl N F) {b : List Int} (hb : b ∈ F) (s : Nat) : (F.map (rof N)).count s = ((lft N F b (rof N b)).map (rof N)).count s + if s = rof N b then s else 0 := by
  have R := rof_is (h.ro b hb)
  have p1 : (lft N F b (rof N b) ++ F.filter fun c => !decide (c ∉ orb N b (rof N b))).Perm F := List.filter_append_perm _ F
  have p2 : (F.filter fun c => !decide (c ∉ orb N b (rof N b))).Perm (orb N b (rof N b)) := by
    refine (List.perm_ext_iff_of_nodup (h.nd.filter _) (orb_nodup R _ (Nat.le_refl _))).mpr fun c => ?_
    rw [List.mem_filter]
    constructor
    · rintro ⟨_, z⟩
      simpa using z
    · intro z
      obtain ⟨i, hi, e⟩ := mem_orb.mp z
      exact ⟨e ▸ h.it hb i, by simpa using z⟩
  have e1 := (p1.map (rof N)).count_eq s
  rw [List.map_append, List.count_append, (p2.map (rof N)).count_eq s] at e1
  have e2 : (orb N b (rof N b)).map (rof N) = List.replicate (rof N b) (rof N b) := by
    rw [List.eq_replicate_iff]
    refine ⟨by unfold orb; simp, fun x hx => ?_⟩
    obtain ⟨c, hc, rfl⟩ := List.mem_map.mp hx
    obtain ⟨i, hi, e⟩ := mem_orb.mp hc
    exact rou_rof (e ▸ R.it hi) (h.ro c (e ▸ h.it hb i))
  rw [e2, List.count_replicate] at e1
  rw [← e1]
  congr 1
  by_cases z : s = rof N b
  · rw [if_pos z, if_pos (by simp [z]), z]
  · rw [if_neg z, if_neg (by simpa using Ne.symm z)]
end BB
namespace BB
theorem rofL_ne {N k : Nat} (h : N ≤ 10) (hk : k < (N + 1) / 2) : ∀ m ∈ rofL N k, m ≠ 0 := fun m hm => by
  obtain ⟨w, hw, rfl⟩ := List.mem_map.mp hm
  exact rof_ne h hk hw
theorem rofL_le {N k m : Nat} (h : m ∈ rofL N k) : m ≤ 51 := by
  obtain ⟨w, hw, rfl⟩ := List.mem_map.mp h
  exact rof_le
theorem rofL_at {N k : Nat} (h : N ≤ 10) (hk : k < (N + 1) / 2) {i : Nat} {w : List Int} (e : (waysL N k)[i]? = some w) : ∃ m : Nat, (rofL N k)[i]? = some m ∧ Rou (N : Int) w m := by
  refine ⟨rof (N : Int) w, ?_, rof_is (rof_ne h hk (List.mem_of_getElem? e))⟩
  unfold rofL
  rw [List.getElem?_map, e]
  rfl
end BB
end
section
namespace K64
open PySem PySem.Spec PyProof.Rows L2
set_option maxHeartbeats 4000000
set_option maxRecDepth 100000
set_option Elab.async false
set_option linter.unusedVariables false
theorem num_true {lo hi v : Int} (h1 : lo ≤ v) (h2 : v ≤ hi) : numB lo hi (.int v) = true := by
  show (decide (lo ≤ v) && decide (v ≤ hi)) = true
  rw [decide_eq_true h1, decide_eq_true h2]
  rfl
theorem ki_same {kvs : List (Key × V)} {ks : List Int} {x : Int} {v : V} (h : KI kvs ks) (hx : x ∈ ks) : KI (putK kvs (Sum.inl x) v) ks := by
  have any : (kvs.any fun kv => decide (kv.1 = Sum.inl x)) = true := by
    have : (Sum.inl x : Key) ∈ kvs.map (·.1) := by rw [h]; exact List.mem_map.mpr ⟨x, hx, rfl⟩
    obtain ⟨kv, m, e⟩ := List.mem_map.mp this
    exact List.any_eq_true.mpr ⟨kv, m, decide_eq_true e⟩
  unfold KI putK
  rw [if_pos any, List.map_map, ← h]
  refine List.map_congr_left fun kv _ => ?_
  show (if kv.1 = Sum.inl x then (kv.1, v) else kv).1 = kv.1
  split <;> rfl
/-- the counts of what has gone out -/
structure DK (kvs : List (Key × V)) (done : List Nat) : Prop where
  val : ∀ n : Nat, valV kvs (Sum.inl (n : Int)) = if done.count n = 0 then none else some (.int (done.count n : Int))
  ks : ∃ ks : List Int, KI kvs ks ∧ ks.Nodup ∧ (∀ z, z ∈ ks → ∃ n : Nat, z = (n : Int)) ∧ ks.length ≤ done.length
theorem DK.nil : DK [] [] := ⟨fun n => rfl, [], rfl, .nil, fun z h => absurd h List.not_mem_nil, Nat.le_refl _⟩
theorem DK.mem {kvs : List (Key × V)} {done : List Nat} (d : DK kvs done) {ks : List Int} (h : KI kvs ks) (n : Nat) : (n : Int) ∈ ks ↔ 0 < done.count n := by
  have e := ki_mem h (n : Int)
  rw [d.val n] at e
  by_cases c : done.count n = 0
  · rw [if_pos c] at e
    constructor
    · intro z; rw [decide_eq_true z] at e; cases e
    · intro z; omega
  · rw [if_neg c] at e
    constructor
    · intro _; omega
    · intro _
      exact of_decide_eq_true e.symm
theorem DK.get {kvs : List (Key × V)} {done : List Nat} (d : DK kvs done) (n : Nat) : (valV kvs (Sum.inl (n : Int))).getD (.int 0) = .int (done.count n : Int) := by
  rw [d.val n]
  split
  · rename_i c; rw [c]; rfl
  · rfl
theorem DK.put {kvs : List (Key × V)} {done : List Nat} (d : DK kvs done) (n : Nat) : DK (putK kvs (Sum.inl (n : Int)) (.int ((done.count n : Int) + 1))) (done ++ [n]) := by
  obtain ⟨ks, k1, k2, k3, k4⟩ := d.ks
  refine ⟨fun m => ?_, ?_⟩
  · rw [valV_put, List.count_append]
    by_cases e : m = n
    · subst e
      rw [if_pos rfl, List.count_singleton_self, if_neg (by omega)]
      rfl
    · rw [if_neg (fun z => e (by have := Sum.inl.inj z; omega)), d.val m]
      have : [n].count m = 0 := List.count_eq_zero.mpr fun z => e (List.mem_singleton.mp z)
      rw [this, Nat.add_zero]
  · by_cases c : (n : Int) ∈ ks
    · exact ⟨ks, ki_same k1 c, k2, k3, by rw [List.length_append]; omega⟩
    · refine ⟨ks ++ [(n : Int)], ki_put k1 c, nd_snoc k2 c, fun z hz => ?_, by rw [List.length_append, List.length_append, List.length_singleton, List.length_singleton]; omega⟩
      rcases List.mem_append.mp hz with w | w
      · exact k3 z w
      · exact ⟨n, List.mem_singleton.mp w⟩
theorem DK.len {kvs : List (Key × V)} {done : List Nat} (d : DK kvs done) : kvs.length ≤ done.length := by
  obtain ⟨ks, k1, _, _, k4⟩ := d.ks
  have := congrArg List.length k1
  rw [List.length_map, List.length_map] at this
  omega

theorem none_back {H H' : Hp} {a : Addr} (s : Same H H') (h : H' a = none) : H a = none := by
  cases e : H a with
  | none => rfl
  | some o => rw [s _ _ e] at h; cases h
def spRnds : Sp := fun vs H Q _ => ∃ (N k : Nat), vs = [.int (N : Int), .int (k : Int)] ∧ 1 ≤ N ∧ N ≤ 10 ∧ k < (N + 1) / 2 ∧
  ∀ (l : Addr) (H' : Hp) (S : List Nat), Same H H' → H l = none → S.Pairwise (· < ·) → (∀ s, s ∈ S ↔ s ∈ BB.rofL N k) → TL H' l (S.map fun (s : Nat) => [.int (s : Int), .int (((BB.rofL N k).count s / s : Nat) : Int)]) → Q (.ref l) H'
/-- the numbers that need_number is asked for here -/
def spNeedE (c0 : Addr) : Sp := fun vs H Q E => ∃ (v : V) (T : String) (lo hi : Nat), vs = [v, .int (lo : Int), .int (hi : Int)] ∧ lo ≤ 1 ∧ hi ≤ 10 ∧ Kn H v T ∧ numB (lo : Int) (hi : Int) v = false ∧ ∀ e, H e = none → E (.ref c0) (some e) H
/-- not a number of boxes and one of balls -/
def Wrong (u v : V) : Prop := numB 1 10 u = false ∨ ∃ N : Nat, 1 ≤ N ∧ N ≤ 10 ∧ u = .int (N : Int) ∧ numB 0 (((N : Int) - 1) / 2) v = false
def spRndE (c0 : Addr) : Sp := fun vs H Q E => ∃ (u v : V) (T T' : String), vs = [u, v] ∧ Kn H u T ∧ Kn H v T' ∧ Wrong u v ∧ ∀ e, H e = none → E (.ref c0) (some e) H
def wholeB : V → Bool
  | .int _ => true
  | _ => false
def spWh : Sp := fun vs H Q _ => ∃ (v : V) (T : String), vs = [v] ∧ Kn H v T ∧ Q (.bl (wholeB v)) H
section
variable {P : Program} {w : World} {K : PySem.W.Frag} {mg : Str → Option Value} {base : Heap} {c0 : Addr} {bm0 : List Value}
set_option maxRecDepth 100000 in
theorem ok_need_number {f : Addr} {fd : FuncData} (F : Fun K "need_number" "need_number" s_need_number f fd) (nb : Nb3 mg) (h_is_number : Has P w K mg base 1 "is_number" ["thing", "least", "greatest"] spNum)  :
    FnOk P w K mg base CX0 2 f fd ["thing", "least", "greatest"] spNeed := by
  have nd := sc_need_number.nd
  refine F.ok (k := 1) sc_need_number (fun vs H Q E h => ?_) (fun cdv A outer s H vs Q E hr h => ?_)
  · obtain ⟨v, lo, hi, rfl, _⟩ := h
    rfl
  obtain ⟨v, lo, hi, rfl, h1, h2, q⟩ := h
  refine ⟨_, (pss_one (ps_if (pt_not (pt_truth (pe_def h_is_number hr (pa_cons (pv 0) (pa_cons (pv 1) (pa_cons (pv 2) pa_nil)))) (fun _ => rfl)))
(pss_one ps_never)
pss_nil)), ?_⟩
  refine ⟨_, rfl, _, rfl, _, rfl, .int v, "int", lo, hi, rfl, .int v, _, rfl, ?_⟩
  rw [num_true h1 h2]
  exact iteF q
set_option maxRecDepth 100000 in
theorem ok_rounds {f : Addr} {fd : FuncData} (F : Fun K "rounds" "rounds" s_rounds f fd) (nb : Nb3 mg) (h_need_number : Has P w K mg base 2 "need_number" ["thing", "least", "greatest"] spNeed) (h_ways : Has P w K mg base 1 "ways" ["boxes", "balls"] spWays) (h_round_of : Has P w K mg base 3 "round_of" ["ring"] spRo) (c_MOST_FOR_ROUNDS : ∃ u, mg "MOST_FOR_ROUNDS" = some u ∧ RelV (.int 10) u) :
    FnOk P w K mg base CX0 4 f fd ["many", "balls"] spRnds := by
  have nd := sc_rounds.nd
  refine F.ok (k := 3) sc_rounds (fun vs H Q E h => ?_) (fun cdv A outer s H vs Q E hr h => ?_)
  · obtain ⟨N, k, rfl, _⟩ := h
    rfl
  obtain ⟨N, k, rfl, N1, N9, kh, q⟩ := h
  refine ⟨_, (pss_cons (ps_expr (pe_def h_need_number hr (pa_cons (pv 0) (pa_cons pe_int (pa_cons (pe_const c_MOST_FOR_ROUNDS) pa_nil)))))
(pss_cons (ps_expr (pe_def h_need_number hr (pa_cons (pv 1) (pa_cons pe_int (pa_cons (pe_op op_fdiv (pe_op op_sub (pv 0) pe_int) pe_int) pa_nil)))))
(pss_cons (ps_set (i := 2) nd rfl (Or.inr rfl) pe_dnewK)
(pss_cons (ps_for PassesOwn.never rfl (pi_list (pe_def h_ways hr (pa_cons (pv 0) (pa_cons (pv 1) pa_nil)))) (pg_name (i := 3) nd rfl (Or.inl rfl))
(pss_cons (ps_set (i := 4) nd rfl (Or.inl rfl) (pe_def h_round_of hr (pa_cons (pe_tup (pa_cons (pv 0) (pa_cons (pv 3) pa_nil))) pa_nil)))
(pss_one (ps_dput (hu1 hr) (pv 2) (pv 4) (pe_op op_add (pe_dget2 (hu1 hr) (pv 2) (pv 4) pe_int ⟨rfl, rfl, rfl, rfl⟩) pe_int) rfl))))
(pss_one (ps_ret (pe_comp1 (sc := defScope s_rounds) (N0 := ["many", "balls", "found", "way", "steps"]) (N := ["found"]) (js := [2]) rfl rfl rfl (by exact ⟨rfl, by decide +kernel, by decide +kernel, by decide +kernel, rfl, rfl, by decide, by decide +kernel, by decide +kernel⟩) rfl
(pi_list (pe_callB (call_sortD rfl) rfl nb.sorted boot_sorted (pa_cons (pv 2) pa_nil)))
(fun _ _ _ _ _ => by exact pts_nil)
(fun _ _ _ _ _ => by exact (pe_tup (pa_cons (pv 0) (pa_cons (pe_op op_fdiv (pe_dget (hu1 hr) (pv 1) (pv 0) (fun _ _ => rfl)) (pv 0)) pa_nil))))))))))), ?_⟩
  refine ⟨_, rfl, (N : Int), 1, 10, rfl, by omega, by omega, ?_⟩
  refine ⟨_, rfl, _, rfl, _, _, rfl, rfl, _, _, rfl, rfl, ⟨by decide, by decide⟩, (k : Int), 0, _, rfl, by omega, by omega, fun d hd => ?_⟩
  have s0 := same_new hd (.dK [])
  have d0 : (upd H d (.dK [])) d = some (.dK []) := upd_same
  generalize upd H d (.dK []) = H0 at s0 d0 ⊢
  refine ⟨_, rfl, _, rfl, N, k, rfl, by omega, by omega, fun l H1 s1 tl => ?_⟩
  have hd1 := s1 _ _ d0
  have tl0 := tl
  obtain ⟨ys, hl, hlen, hy⟩ := tl
  rw [List.length_map] at hlen
  have S1 := s0.trans s1
  have fw := BB.few_ways N (by omega) k (by omega)
  have ld : l ≠ d := fun z => by rw [z, hd1] at hl; cases hl
  refine ⟨l, rfl, ⟨_, SqL.of hl⟩, ?_⟩
  refine for_list (xs := ys) (fun i σ H' => ∃ (o3 o4 : Option V) (kvs : List (Key × V)), σ = [some (.int (N : Int)), some (.int (k : Int)), some (.ref d), o3, o4] ∧ But d H1 H' ∧ H' d = some (.dK kvs) ∧ DK kvs ((BB.rofL N k).take i)) ⟨_, _, [], rfl, But.refl _ _, hd1, DK.nil⟩ (fun i σ H' _ hp => ?_) (fun i x σ H' hxi hp => ?_) (fun σ H' hp => ?_)
  · obtain ⟨o3, o4, kvs, rfl, bt, hk, dk⟩ := hp
    exact SqL.of (bt _ _ ld hl)
  · obtain ⟨o3, o4, kvs, rfl, bt, hk, dk⟩ := hp
    have hil : i < (BB.waysL N k).length := by
      have := (List.getElem?_eq_some_iff.mp hxi).1
      omega
    obtain ⟨pw, rfl, hpw⟩ := hy i x hxi
    rw [List.getD_eq_getElem?_getD, List.getElem?_map, List.getElem?_eq_getElem hil] at hpw
    have hpw : H1 pw = some (.tup ((BB.waysL N k)[i].map V.int)) := hpw
    have wy := BB.mem_ways.mp (List.getElem_mem hil)
    obtain ⟨m, hm1, hm2⟩ := BB.rofL_at N9 kh (List.getElem?_eq_getElem hil)
    generalize (BB.waysL N k)[i] = w at hpw wy hm2
    have ring := wy.ring (show 2 * k < N by omega)
    have pd : pw ≠ d := fun z => by rw [z, hd1] at hpw; cases hpw
    have hpw2 := bt _ _ pd hpw
    refine ⟨_, rfl, _, rfl, (by show 2 ≤ sizeLine; decide), fun p hp => ?_⟩
    have s2 := same_new hp (.tup [.int (N : Int), .ref pw])
    refine ⟨p, (N : Int), w, m, rfl, ⟨pw, upd_same, s2 _ _ hpw2⟩, ring, by omega, hm2, fun H3 s3 => ?_⟩
    have hk3 := s3 _ _ (s2 _ _ hk)
    have bt3 := (bt.trans (But.of s2)).trans (But.of s3)
    have dl := dk.len
    rw [List.length_take] at dl
    have rl : (BB.rofL N k).length = (BB.waysL N k).length := by unfold BB.rofL; rw [List.length_map]
    refine ⟨_, rfl, d, rfl, .inl ⟨kvs, .inl hk3⟩, _, rfl, _, DGet.k (k := Sum.inl (m : Int)) hk3, _, _, dk.get m, rfl, ?_⟩
    refine ⟨_, rfl, _, rfl, d, _, rfl, DPut.k (k := Sum.inl (m : Int)) hk3 (by rw [sizeLine_eq]; omega), ?_⟩
    refine ⟨_, _, _, rfl, bt3.trans (But.upd _), upd_same, ?_⟩
    rw [List.take_succ, hm1]
    exact dk.put m
  · obtain ⟨o3, o4, kvs, rfl, bt, hk, dk⟩ := hp
    have rl : (BB.rofL N k).length = (BB.waysL N k).length := by unfold BB.rofL; rw [List.length_map]
    rw [hlen, ← rl, List.take_length] at dk
    obtain ⟨ks, k1, k2, k3, k4⟩ := dk.ks
    have sm : Same H H' := fun b o hb => bt _ _ (ne_of_none hb hd) (S1 _ _ hb)
    have c1 := BB.rofL_ne N9 kh
    have kl : ks.length < 64 := by
      have := BB.many_in ks ((List.range 52).map fun (m : Nat) => (m : Int)) k2 fun z hz => by
        obtain ⟨n, rfl⟩ := k3 z hz
        have := (dk.mem k1 n).mp hz
        exact List.mem_map.mpr ⟨n, List.mem_range.mpr (by have := BB.rofL_le (List.count_pos_iff.mp this); omega), rfl⟩
      rw [List.length_map, List.length_range] at this
      omega
    refine ⟨_, rfl, d, ks, kvs, rfl, hk, k1, kl, fun ns l2 pm le hl2 => ?_⟩
    have s4 := same_new hl2 (.lst (ns.map V.int))
    have hl4 : (upd H' l2 (.lst (ns.map V.int))) l2 = some (.lst (ns.map V.int)) := upd_same
    have hk4 := s4 _ _ hk
    have sm4 := sm.trans s4
    generalize upd H' l2 (.lst (ns.map V.int)) = H4 at s4 hl4 hk4 sm4 ⊢
    obtain ⟨S, eS⟩ : ∃ S : List Nat, ns = S.map fun (m : Nat) => (m : Int) := ⟨ns.map Int.toNat, by
      rw [List.map_map]
      refine (List.map_id ns).symm.trans (List.map_congr_left fun z hz => ?_)
      obtain ⟨n, rfl⟩ := k3 z (pm.mem_iff.mp hz)
      rfl⟩
    subst eS
    have Sm : ∀ s, s ∈ S ↔ s ∈ BB.rofL N k := fun s => by
      have a := dk.mem k1 s
      rw [← pm.mem_iff, List.count_pos_iff] at a
      rw [← a, List.mem_map]
      exact ⟨fun h => ⟨s, h, rfl⟩, fun ⟨z, hz, e⟩ => by have : z = s := by omega
                                                        exact this ▸ hz⟩
    have Sn : S.Nodup := by
      have := pm.nodup_iff.mpr k2
      exact (List.pairwise_map.mp this).imp fun h e => h (by rw [e])
    have Su : S.Pairwise (· < ·) := by
      have le' := List.pairwise_map.mp le
      refine (le'.and Sn).imp fun {a b} h => ?_
      have h1 := h.1
      have h2 : a ≠ b := h.2
      omega
    refine ⟨l2, rfl, ⟨_, SqL.of hl4⟩, fun D hD => ?_⟩
    refine comp_tups S.length (by have := pm.length_eq; rw [List.length_map] at this; rw [sizeLine_eq]; omega) (fun i => [.int ((S.getD i 0 : Nat) : Int), .int (((BB.rofL N k).count (S.getD i 0) / S.getD i 0 : Nat) : Int)]) (fun σ => ∃ o1, σ = [o1, some (.ref d)]) (fun i H5 x => ((S.map fun (m : Nat) => (m : Int)).map V.int)[i]? = some x) hD ⟨_, rfl⟩ (fun i H5 s5 => by have := items_lst (K := K) hl4 i H5 s5; rw [List.length_map, List.length_map] at this; exact this) (fun i x σ' H5 hi s5 im hσ R hR => ?_) (fun H5 zs s5 h5 zl zy => ?_)
    · obtain ⟨o1, rfl⟩ := hσ
      rw [List.getElem?_map, List.getElem?_map, List.getElem?_eq_getElem hi] at im
      have ex : x = .int ((S.getD i 0 : Nat) : Int) := by
        rw [List.getD_eq_getElem?_getD, List.getElem?_eq_getElem hi]
        exact (Option.some.inj im).symm
      subst ex
      have mem : S.getD i 0 ∈ BB.rofL N k := (Sm _).mp (by rw [List.getD_eq_getElem?_getD, List.getElem?_eq_getElem hi]; exact List.getElem_mem hi)
      generalize S.getD i 0 = m at mem hR
      have m0 := c1 m mem
      have cp := List.count_pos_iff.mpr mem
      have cl := List.count_le_length (a := m) (l := BB.rofL N k)
      have mb : m < 1000 := by
        have := BB.rofL_le mem
        omega
      refine ⟨_, rfl, _, rfl, _, rfl, d, .int ((BB.rofL N k).count m : Int), rfl, ?_, _, rfl, _, _, rfl, rfl, ⟨by omega, by omega⟩, (by show 2 ≤ sizeLine; decide), fun p hp => hR _ _ _ ⟨_, rfl⟩ (same_new hp _) ?_⟩
      · have := dk.val m
        rw [if_neg (by omega)] at this
        rw [← this]
        exact DGet.k (k := Sum.inl (m : Int)) (s5 _ _ hk4)
      · rw [upd_same]
        rfl
    · refine q D H5 S (sm4.trans s5) (none_back sm4 hD) Su Sm ⟨zs, h5, by rw [zl, List.length_map], fun j y e => ?_⟩
      obtain ⟨p, e1, e2⟩ := zy j y e
      refine ⟨p, e1, ?_⟩
      have jl : j < S.length := by
        have := (List.getElem?_eq_some_iff.mp e).1
        omega
      rw [e2, List.getD_eq_getElem?_getD, List.getD_eq_getElem?_getD, List.getElem?_map, List.getElem?_eq_getElem jl]
      rfl
set_option maxRecDepth 100000 in
theorem ok_need_numberE {f : Addr} {fd : FuncData} (F : Fun K "need_number" "need_number" s_need_number f fd) (nb : Nb3 mg) (h_is_number : Has P w K mg base 1 "is_number" ["thing", "least", "greatest"] spNum)   (hm : mg "NoNumber" = some (.ref c0)) (ex : Exc K c0 bm0) :
    FnOk P w K mg base (CXF P w) 2 f fd ["thing", "least", "greatest"] (spNeedE c0) := by
  have nd := sc_need_number.nd
  refine F.okE (k := 1) sc_need_number (fun vs H Q E h => ?_) (fun cdv A outer s H vs Q E hr h => ?_)
  · obtain ⟨v, T, lo, hi, rfl, _⟩ := h
    rfl
  obtain ⟨v, T, lo, hi, rfl, l1, h10, kn, nm, q⟩ := h
  refine ⟨_, (pss_one (ps_if (pt_not (pt_truth (pe_def h_is_number hr (pa_cons (pv 0) (pa_cons (pv 1) (pa_cons (pv 2) pa_nil)))) (fun _ => rfl)))
(pss_one (ps_raise lvs_cx rfl rfl hm ex (pa_cons (pe_fstr (pj_str (pj_int (pv 1) (pj_str (pj_int (pv 2) (pj_str pj_nil)))))) pa_nil)))
pss_nil)), ?_⟩
  refine ⟨_, rfl, _, rfl, _, rfl, v, T, (lo : Int), (hi : Int), rfl, kn, _, rfl, ?_⟩
  rw [nm]
  refine iteT ?_
  have cl : lo = 0 ∨ lo = 1 := by omega
  have cs : hi = 0 ∨ hi = 1 ∨ hi = 2 ∨ hi = 3 ∨ hi = 4 ∨ hi = 5 ∨ hi = 6 ∨ hi = 7 ∨ hi = 8 ∨ hi = 9 ∨ hi = 10 := by omega
  clear nm
  rcases cl with rfl | rfl <;> rcases cs with rfl | rfl | rfl | rfl | rfl | rfl | rfl | rfl | rfl | rfl | rfl
  all_goals
    refine ⟨by decide +kernel, _, rfl, _, rfl, by decide +kernel, by decide +kernel, by decide +kernel, _, rfl, _, rfl, by decide +kernel, by decide +kernel, by decide +kernel, by decide +kernel, by decide +kernel, ?_⟩
    exact q
theorem ok_roundsE {f : Addr} {fd : FuncData} (F : Fun K "rounds" "rounds" s_rounds f fd) (nb : Nb3 mg) (h_need_number : Has P w K mg base 2 "need_number" ["thing", "least", "greatest"] spNeed) (hE_need_number : HasE P w K mg base 2 "need_number" ["thing", "least", "greatest"] (spNeedE c0)) (c_MOST_FOR_ROUNDS : ∃ u, mg "MOST_FOR_ROUNDS" = some u ∧ RelV (.int 10) u) :
    FnOk P w K mg base (CXF P w) 3 f fd ["many", "balls"] (spRndE c0) := by
  have nd := sc_rounds.nd
  refine F.okE (k := 2) sc_rounds (fun vs H Q E h => ?_) (fun cdv A outer s H vs Q E hr h => ?_)
  · obtain ⟨u, v, T, T', rfl, _⟩ := h
    rfl
  obtain ⟨u, v, T, T', rfl, ku, kv, wr, q⟩ := h
  rcases wr with wr | ⟨N, N1, N10, rfl, wr⟩
  · refine ⟨_, (pss_cons (ps_expr (pe_defE hE_need_number lvs_cx hr (pa_cons (pv 0) (pa_cons pe_int (pa_cons (pe_const c_MOST_FOR_ROUNDS) pa_nil))))) pss_never), ?_⟩
    exact ⟨_, rfl, u, T, 1, 10, rfl, by omega, by omega, ku, wr, q⟩
  · refine ⟨_, (pss_cons (ps_expr (pe_def h_need_number hr (pa_cons (pv 0) (pa_cons pe_int (pa_cons (pe_const c_MOST_FOR_ROUNDS) pa_nil))))) (pss_cons (ps_expr (pe_defE hE_need_number lvs_cx hr (pa_cons (pv 1) (pa_cons pe_int (pa_cons (pe_op op_fdiv (pe_op op_sub (pv 0) pe_int) pe_int) pa_nil))))) pss_never)), ?_⟩
    refine ⟨_, rfl, (N : Int), 1, 10, rfl, by omega, by omega, ?_⟩
    have e : ((N : Int) - 1) / 2 = (((N - 1) / 2 : Nat) : Int) := by omega
    refine ⟨_, rfl, _, rfl, _, _, rfl, rfl, _, _, rfl, rfl, ⟨by decide, by decide⟩, v, T', 0, (N - 1) / 2, ?_, by omega, by omega, kv, by rw [← e]; exact wr, q⟩
    rw [← e]
    rfl
set_option maxRecDepth 100000 in
theorem ok_L_whole {f : Addr} {fd : FuncData} (F : Fun K "_law_whole" "_law_whole" s_L_whole f fd) (nb : Nb3 mg)   :
    FnOk P w K mg base CX0 1 f fd ["_law_thing"] spWh := by
  have nd := sc_L_whole.nd
  refine F.ok (k := 0) sc_L_whole (fun vs H Q E h => ?_) (fun cdv A outer s H vs Q E hr h => ?_)
  · obtain ⟨v, T, rfl, _⟩ := h
    rfl
  obtain ⟨v, T, rfl, hk, q⟩ := h
  refine ⟨_, (pss_one (ps_ret (pe_and (pe_callB call_isi rfl nb.isi boot_isinstance (pa_cons (pv 0) (pa_cons (pe_ty nb.int boot_int) pa_nil))) (pe_one (pe_not (pe_callB call_isi rfl nb.isi boot_isinstance (pa_cons (pv 0) (pa_cons (pe_ty nb.bool boot_bool) pa_nil)))))))), ?_⟩
  refine ⟨_, rfl, _, _, _, rfl, hk, .inl rfl, _, rfl, ?_⟩
  rcases kn_cases hk with ⟨rfl, b, rfl⟩ | ⟨rfl, i, rfl⟩ | ⟨e1, e2, e3⟩
  · exact iteT ⟨_, rfl, _, _, _, rfl, hk, .inr (.inl rfl), _, rfl, q⟩
  · exact iteT ⟨_, rfl, _, _, _, rfl, hk, .inr (.inl rfl), _, rfl, q⟩
  · rw [e2]
    have e : wholeB v = false := by
      cases hk <;> first | rfl | exact absurd e2 (by decide)
    rw [e] at q
    exact iteF q
end
end K64
end
section
/-! Depths by a stack, and what is peeled off. -/
namespace BB
set_option linter.unusedVariables false
/-- balls from x on, with so many empty boxes behind each -/
def pos : Int → List Nat → List Int
  | _, [] => []
  | x, g :: r => x :: pos (x + 1 + (g : Int)) r
/-- the gaps between -/
def tk : List Int → List Nat
  | [] => []
  | [_] => []
  | p :: q :: r => (q - p - 1).toNat :: tk (q :: r)
end BB
end
section
/-! Takings and peelings. -/
namespace BB
set_option linter.unusedVariables false
/-- how many are taken, by gaps -/
def tg (s : Nat) : Nat → List Nat → Nat
  | _, [] => 0
  | L, g :: r => if L < s then 1 + tg s (L + 1 - g) r else tg s (L - g) r
end BB
end
section
/-! Two carriers, one behind the other: whichever is first. -/
namespace BB
set_option linter.unusedVariables false
set_option maxHeartbeats 4000000
def tk1 (z L : Nat) (b : Bool) : Nat := if b = true ∧ L < z then 1 else 0
/-- the loads p, q where the other carrier is first -/
structure Rl (a b u v p q A B : Nat) : Prop where
  e1 : p + B = v + A
  e2 : q + A = u + B
  a1 : A ≤ u
  a2 : A + v ≤ b
  a3 : A = u ∨ A + v = b
  b1 : B ≤ v
  b2 : B + u ≤ a
  b3 : B = v ∨ B + u = a
/-- how many are taken, box by box -/
def tb (z : Nat) : Nat → List Bool → Nat
  | _, [] => 0
  | L, b :: r => tk1 z L b + tb z (stp z L b).1 r
end BB
end
section
/-! Counts of things, kept in a dict by tuples; sorted, they are told by how many there are of each. -/
namespace L2
open PySem PySem.Spec PySem.W PyProof.Rows
set_option maxHeartbeats 4000000
set_option maxRecDepth 100000
set_option Elab.async false
set_option linter.unusedVariables false
/-- how many there are of each -/
structure Cnt (bl : List (List Int × Int)) (xs : List (List Int)) : Prop where
  nd : (bl.map (·.1)).Nodup
  mem : ∀ t n, (t, n) ∈ bl ↔ 0 < xs.count t ∧ n = ((xs.count t : Nat) : Int)
theorem Cnt.nil : Cnt [] [] := ⟨List.nodup_nil, fun t n => by simp⟩
theorem Cnt.perm {bl bl' : List (List Int × Int)} {xs : List (List Int)} (c : Cnt bl xs) (p : bl'.Perm bl) : Cnt bl' xs :=
  ⟨(p.map (·.1)).nodup_iff.mpr c.nd, fun t n => by rw [p.mem_iff]; exact c.mem t n⟩
def putI (bl : List (List Int × Int)) (t : List Int) (n : Int) : List (List Int × Int) := if t ∈ bl.map (·.1) then bl.map fun q => if q.1 = t then (t, n) else q else bl ++ [(t, n)]
theorem inl_inj {s t : List Int} (h : s.map (Sum.inl : Int → Key) = t.map Sum.inl) : s = t := by
  induction s generalizing t with
  | nil => cases t with
    | nil => rfl
    | cons _ _ => cases h
  | cons a s ih => cases t with
    | nil => cases h
    | cons b t =>
      rw [List.map_cons, List.map_cons] at h
      injection h with h1 h2
      rw [Sum.inl.inj h1, ih h2]
theorem valT (bl : List (List Int × Int)) (t : List Int) : valV (bl.map kvT) (t.map Sum.inl) = (bl.find? fun q => decide (q.1 = t)).map fun q => .int q.2 := by
  induction bl with
  | nil => rfl
  | cons q r ih =>
    rw [List.map_cons, List.find?_cons]
    by_cases c : q.1 = t
    · rw [valV_pos (p := kvT q) (by show q.1.map Sum.inl = _; rw [c]), decide_eq_true c]
      rfl
    · rw [valV_neg (p := kvT q) (fun z => c (inl_inj z)), ih, decide_eq_false c]
theorem Cnt.get {bl : List (List Int × Int)} {xs : List (List Int)} (c : Cnt bl xs) (t : List Int) : (valV (bl.map kvT) (t.map Sum.inl)).getD (.int 0) = .int ((xs.count t : Nat) : Int) := by
  rw [valT]
  cases e : bl.find? fun q => decide (q.1 = t) with
  | none =>
    have no : ¬ 0 < xs.count t := fun z => by
      have := List.find?_eq_none.mp e (t, _) ((c.mem t _).mpr ⟨z, rfl⟩)
      simp at this
    show V.int 0 = _
    rw [Nat.eq_zero_of_not_pos no]
    rfl
  | some q =>
    have h1 := List.find?_some e
    have h2 := List.mem_of_find?_eq_some e
    have h3 : q.1 = t := of_decide_eq_true h1
    have := (c.mem q.1 q.2).mp h2
    show V.int q.2 = _
    rw [this.2, h3]
theorem Cnt.some {bl : List (List Int × Int)} {xs : List (List Int)} (c : Cnt bl xs) {t : List Int} {n : Int} (h : (t, n) ∈ bl) : valV (bl.map kvT) (t.map Sum.inl) = some (.int n) := by
  rw [valT]
  cases e : bl.find? fun q => decide (q.1 = t) with
  | none =>
    have := List.find?_eq_none.mp e (t, n) h
    simp at this
  | some q =>
    have h1 := List.find?_some e
    have h2 := List.mem_of_find?_eq_some e
    have h3 : q.1 = t := of_decide_eq_true h1
    have := (c.mem q.1 q.2).mp h2
    have := (c.mem t n).mp h
    show Option.some (V.int q.2) = _
    rw [this.2]
    simp_all
theorem Cnt.put {bl : List (List Int × Int)} {xs : List (List Int)} (c : Cnt bl xs) (t : List Int) : Cnt (putI bl t (((xs.count t : Nat) : Int) + 1)) (xs ++ [t]) := by
  have ct : ∀ s, (xs ++ [t]).count s = xs.count s + if t = s then 1 else 0 := fun s => by
    rw [List.count_append, List.count_singleton]
    by_cases e : t = s
    · subst e; simp
    · rw [if_neg e]; simp [e]
  unfold putI
  by_cases m : t ∈ bl.map (·.1)
  · rw [if_pos m]
    have keys : (bl.map fun q => if q.1 = t then (t, ((xs.count t : Nat) : Int) + 1) else q).map (·.1) = bl.map (·.1) := by
      rw [List.map_map]
      refine List.map_congr_left fun q _ => ?_
      show (if q.1 = t then (t, ((xs.count t : Nat) : Int) + 1) else q).1 = q.1
      by_cases e : q.1 = t
      · rw [if_pos e]; exact e.symm
      · rw [if_neg e]
    refine ⟨by rw [keys]; exact c.nd, fun s n => ?_⟩
    rw [List.mem_map, ct]
    constructor
    · rintro ⟨q, hq, e⟩
      by_cases z : q.1 = t
      · rw [if_pos z] at e
        cases e
        rw [if_pos rfl]
        exact ⟨by omega, by omega⟩
      · rw [if_neg z] at e
        subst e
        rw [if_neg (fun y => z y.symm)]
        exact (c.mem _ _).mp hq
    · rintro ⟨h1, h2⟩
      by_cases z : t = s
      · subst z
        obtain ⟨q, hq, e⟩ := List.mem_map.mp m
        refine ⟨q, hq, ?_⟩
        rw [if_pos e, h2, if_pos rfl]
        simp
      · rw [if_neg z] at h1 h2
        refine ⟨(s, n), (c.mem s n).mpr ⟨h1, h2⟩, ?_⟩
        rw [if_neg fun y => z y.symm]
  · rw [if_neg m]
    have z0 : xs.count t = 0 := Nat.eq_zero_of_not_pos fun z => m (List.mem_map.mpr ⟨_, (c.mem t _).mpr ⟨z, rfl⟩, rfl⟩)
    refine ⟨?_, fun s n => ?_⟩
    · rw [List.map_append]
      exact List.nodup_append.mpr ⟨c.nd, List.pairwise_singleton _ _, fun x hx y hy e => m (by
        have : y = t := by simpa using hy
        rw [← this, ← e]; exact hx)⟩
    · rw [List.mem_append, List.mem_singleton, ct]
      constructor
      · rintro (h | h)
        · have ne : t ≠ s := fun z => m (List.mem_map.mpr ⟨_, h, z.symm⟩)
          rw [if_neg ne]
          exact (c.mem _ _).mp h
        · cases h
          rw [if_pos rfl, z0]
          exact ⟨by omega, by omega⟩
      · rintro ⟨h1, h2⟩
        by_cases z : t = s
        · subst z
          rw [if_pos rfl, z0] at h2
          right
          rw [h2, z0]
          rfl
        · rw [if_neg z] at h1 h2
          exact .inl ((c.mem _ _).mpr ⟨h1, h2⟩)
/-- in order, they are told by how many there are of each -/
theorem lex_one : ∀ {xs ys : List (List Int × Int)}, xs.Pairwise (fun x y => HT.lexLt x.1 y.1 = true) → ys.Pairwise (fun x y => HT.lexLt x.1 y.1 = true) → (∀ z, z ∈ xs ↔ z ∈ ys) → xs = ys
  | [], [], _, _, _ => rfl
  | [], y :: ys, _, _, h => by have := (h y).mpr List.mem_cons_self; cases this
  | x :: xs, [], _, _, h => by have := (h x).mp List.mem_cons_self; cases this
  | x :: xs, y :: ys, hx, hy, h => by
    obtain ⟨x1, x2⟩ := List.pairwise_cons.mp hx
    obtain ⟨y1, y2⟩ := List.pairwise_cons.mp hy
    have e : x = y := by
      rcases List.mem_cons.mp ((h x).mp List.mem_cons_self) with z | z
      · exact z
      · rcases List.mem_cons.mp ((h y).mpr List.mem_cons_self) with w | w
        · exact w.symm
        · have a := y1 _ z
          have b := x1 _ w
          have := lx_trans a b
          rw [lx_irr] at this
          cases this
    subst e
    have nx : ∀ z ∈ xs, z ≠ x := fun z hz e => by have := x1 z hz; rw [e, lx_irr] at this; cases this
    have ny : ∀ z ∈ ys, z ≠ x := fun z hz e => by have := y1 z hz; rw [e, lx_irr] at this; cases this
    rw [lex_one x2 y2 fun z => ⟨fun hz => ?_, fun hz => ?_⟩]
    · exact (List.mem_cons.mp ((h z).mp (List.mem_cons_of_mem _ hz))).resolve_left (nx z hz)
    · exact (List.mem_cons.mp ((h z).mpr (List.mem_cons_of_mem _ hz))).resolve_left (ny z hz)
theorem Cnt.one {bl cl : List (List Int × Int)} {xs : List (List Int)} (c : Cnt bl xs) (d : Cnt cl xs) (hb : bl.Pairwise (fun x y => HT.lexLt x.1 y.1 = true)) (hc : cl.Pairwise (fun x y => HT.lexLt x.1 y.1 = true)) : bl = cl :=
  lex_one hb hc fun z => by
    obtain ⟨t, n⟩ := z
    rw [c.mem, d.mem]
theorem nodup_le {α : Type} [DecidableEq α] : ∀ {xs ys : List α}, xs.Nodup → (∀ x ∈ xs, x ∈ ys) → xs.length ≤ ys.length
  | [], _, _, _ => Nat.zero_le _
  | x :: xs, ys, nd, h => by
    obtain ⟨n1, n2⟩ := List.nodup_cons.mp nd
    have m := h x List.mem_cons_self
    have := nodup_le (xs := xs) (ys := ys.erase x) n2 fun z hz => (List.mem_erase_of_ne (fun e => n1 (by rw [← e]; exact hz))).mpr (h z (List.mem_cons_of_mem _ hz))
    rw [List.length_erase_of_mem m] at this
    have := List.length_pos_of_mem m
    rw [List.length_cons]
    omega
theorem Cnt.len {bl : List (List Int × Int)} {xs ys : List (List Int)} (c : Cnt bl xs) (h : ∀ x ∈ xs, x ∈ ys) : bl.length ≤ ys.length := by
  rw [← List.length_map (f := (·.1))]
  refine nodup_le c.nd fun t ht => ?_
  obtain ⟨q, hq, rfl⟩ := List.mem_map.mp ht
  exact h _ (List.count_pos_iff.mp ((c.mem q.1 q.2).mp hq).1)
end L2
end
section
/-! All rows on a few boxes, two ways; how many lengths there are. -/
namespace BB
set_option maxRecDepth 100000
set_option Elab.async false
/-- all rows on N boxes, by doubling -/
def dblL : Nat → List (List Int)
  | 0 => [[]]
  | n + 1 => dblL n ++ (dblL n).map fun r => r ++ [(n : Int)]
theorem dbl_ways : ∀ N, N ≤ 10 → ∀ k, k ≤ N → (waysL N k).Perm ((dblL N).filter fun r => decide (r.length = k)) := by decide +kernel
theorem dbl_len (n : Nat) : (dblL n).length = 2 ^ n := by
  induction n with
  | zero => rfl
  | succ n ih => unfold dblL; rw [List.length_append, List.length_map, ih, Nat.pow_succ]; omega
theorem dbl_way {N : Nat} : ∀ {r : List Int}, r ∈ dblL N → r.Pairwise (· < ·) ∧ r.length ≤ N ∧ ∀ x ∈ r, 0 ≤ x ∧ x < (N : Int) := by
  induction N with
  | zero =>
    intro r h
    have : r = [] := by simpa [dblL] using h
    subst this
    exact ⟨.nil, Nat.le_refl _, fun x hx => by cases hx⟩
  | succ n ih =>
    intro r h
    unfold dblL at h
    rcases List.mem_append.mp h with h | h
    · obtain ⟨a, b, c⟩ := ih h
      exact ⟨a, by omega, fun x hx => by have := c x hx; omega⟩
    · obtain ⟨s, hs, rfl⟩ := List.mem_map.mp h
      obtain ⟨a, b, c⟩ := ih hs
      refine ⟨List.pairwise_append.mpr ⟨a, List.pairwise_singleton _ _, fun x hx y hy => ?_⟩, by rw [List.length_append, List.length_singleton]; omega, fun x hx => ?_⟩
      · have := c x hx
        rw [List.mem_singleton] at hy
        omega
      · rcases List.mem_append.mp hx with h | h
        · have := c x h; omega
        · rw [List.mem_singleton] at h; omega
end BB
end
section
/-! All ways, in the order of tuples. -/
namespace BB
open L2 PySem PySem.Spec PySem.W PyProof.Rows
set_option maxRecDepth 100000
set_option Elab.async false
theorem dbl_nodup : ∀ N, (dblL N).Nodup ∧ ∀ r ∈ dblL N, ∀ x ∈ r, x < (N : Int)
  | 0 => ⟨by decide, by decide⟩
  | n + 1 => by
    obtain ⟨h1, h2⟩ := dbl_nodup n
    unfold dblL
    refine ⟨List.nodup_append.mpr ⟨h1, ?_, fun a ha b hb => ?_⟩, fun r hr x hx => ?_⟩
    · exact List.pairwise_map.mpr (h1.imp fun {a b} ne e => ne (List.append_cancel_right e))
    · obtain ⟨c, hc, rfl⟩ := List.mem_map.mp hb
      intro e
      have := h2 a ha (n : Int) (by rw [e]; simp)
      omega
    · rcases List.mem_append.mp hr with z | z
      · have := h2 r z x hx
        omega
      · obtain ⟨c, hc, rfl⟩ := List.mem_map.mp z
        rcases List.mem_append.mp hx with y | y
        · have := h2 c hc x y
          omega
        · rw [List.mem_singleton] at y
          omega
end BB
end
section
/-! Rounds counted by taking them out. -/
namespace BB
set_option linter.all false
theorem er_filter {α : Type} [DecidableEq α] : ∀ {l : List α} {i : Nat} {a : α}, l.Nodup → l[i]? = some a → l.eraseIdx i = l.filter fun x => decide (x ≠ a)
  | [], _, _, _, e => by cases e
  | y :: r, 0, a, nd, e => by
    have e : y = a := by simpa using e
    subst e
    rw [List.eraseIdx_cons_zero, List.filter_cons, if_neg (by simp)]
    refine (List.filter_eq_self.mpr fun x hx => ?_).symm
    rw [decide_eq_true_iff]
    exact fun z => (List.nodup_cons.mp nd).1 (z ▸ hx)
  | y :: r, i + 1, a, nd, e => by
    have e : r[i]? = some a := by simpa using e
    have ya : y ≠ a := fun z => (List.nodup_cons.mp nd).1 (z ▸ List.mem_of_getElem? e)
    rw [List.eraseIdx_cons_succ, List.filter_cons, if_pos (decide_eq_true ya), er_filter (List.nodup_cons.mp nd).2 e]
theorem Way.next {N k : Nat} {w : List Int} (h : Way N k w) (few : 2 * k < N) : Way N k (rUp (N : Int) w) := by
  obtain ⟨r, l⟩ := up_ring (h.ring few)
  exact ⟨by rw [l, h.len], r.up, r.bd⟩
theorem few_way {N k : Nat} (N9 : N ≤ 10) (kN : k ≤ N) {w : List Int} : w ∈ ((dblL N).filter fun r => decide (r.length = k)) ↔ Way N k w := by
  rw [← (dbl_ways N N9 k kN).mem_iff]
  exact mem_ways
/-- to begin with -/
theorem cl_first {N k : Nat} (N9 : N ≤ 10) (kh : k < (N + 1) / 2) : Cl (N : Int) ((dblL N).filter fun r => decide (r.length = k)) := by
  refine ⟨(dbl_nodup N).1.filter _, fun c hc => ?_, fun c hc => ?_⟩
  · exact rof_ne N9 kh (mem_ways.mpr ((few_way N9 (by omega)).mp hc))
  · exact (few_way N9 (by omega)).mpr (((few_way N9 (by omega)).mp hc).next (by omega))
theorem cnt_first {N k : Nat} (N9 : N ≤ 10) (kN : k ≤ N) (s : Nat) : (((dblL N).filter fun r => decide (r.length = k)).map (rof (N : Int))).count s = (rofL N k).count s :=
  ((dbl_ways N N9 k kN).map (rof (N : Int))).symm.count_eq s
theorem up_one {S T : List Nat} (hS : S.Pairwise (· < ·)) (hT : T.Pairwise (· < ·)) (h : ∀ s, s ∈ S ↔ s ∈ T) : S = T := by
  have p : S.Perm T := (List.perm_ext_iff_of_nodup (hS.imp fun h => by omega) (hT.imp fun h => by omega)).mpr h
  exact p.eq_of_pairwise (fun a b _ _ x y => by omega) hS hT
/-- what is told by the counts, in order -/
theorem told_sorted {L R : List Nat} {ks : List Int} {bl : List (Int × Int)} (pm : bl.Perm (ks.map fun z => (z, (L.count z.toNat : Int)))) (pw : bl.Pairwise fun x y => x.1 < y.1) (kn : ∀ z ∈ ks, ∃ n : Nat, z = (n : Int)) (km : ∀ n : Nat, (n : Int) ∈ ks ↔ 0 < L.count n)
    (e : ∀ s, s * L.count s = R.count s) (R0 : ∀ s ∈ R, s ≠ 0) (LR : ∀ s ∈ L, s ∈ R) : ∃ S : List Nat, S.Pairwise (· < ·) ∧ (∀ s, s ∈ S ↔ s ∈ R) ∧ bl = S.map fun (s : Nat) => ((s : Int), ((R.count s / s : Nat) : Int)) := by
  have sh : ∀ b ∈ bl, ∃ n : Nat, n ∈ L ∧ b = ((n : Int), ((R.count n / n : Nat) : Int)) := fun b hb => by
    obtain ⟨z, hz, rfl⟩ := List.mem_map.mp (pm.mem_iff.mp hb)
    obtain ⟨n, rfl⟩ := kn z hz
    have nL := List.count_pos_iff.mp ((km n).mp hz)
    have n0 := R0 n (LR n nL)
    refine ⟨n, nL, ?_⟩
    rw [← e n, Nat.mul_div_cancel_left _ (by omega)]
    rfl
  refine ⟨bl.map fun b => b.1.toNat, ?_, fun s => ?_, ?_⟩
  · refine List.pairwise_map.mpr (List.Pairwise.imp_of_mem (fun {a b} ha hb h => ?_) pw)
    obtain ⟨n, _, rfl⟩ := sh a ha
    obtain ⟨m, _, rfl⟩ := sh b hb
    have h : (n : Int) < (m : Int) := h
    show n < m
    omega
  · constructor
    · intro hs
      obtain ⟨b, hb, rfl⟩ := List.mem_map.mp hs
      obtain ⟨n, nL, rfl⟩ := sh b hb
      exact LR n nL
    · intro hs
      have c := List.count_pos_iff.mpr hs
      have c2 : 0 < L.count s := by
        rw [← e s] at c
        exact Nat.pos_of_mul_pos_left c
      exact List.mem_map.mpr ⟨_, pm.mem_iff.mpr (List.mem_map.mpr ⟨(s : Int), (km s).mpr c2, rfl⟩), rfl⟩
  · rw [List.map_map]
    refine (List.map_id bl).symm.trans (List.map_congr_left fun b hb => ?_)
    obtain ⟨n, nL, rfl⟩ := sh b hb
    rfl
/-- what is left and what is found, after a round is taken out -/
theorem cnt_next {N : Int} {F : List (List Int)} (h : Cl N F) {b : List Int} (hb : b ∈ F) {L : List Nat} {f : Nat → Nat} (e : ∀ s, s * L.count s + (F.map (rof N)).count s = f s) (s : Nat) : s * (L ++ [rof N b]).count s + ((lft N F b (rof N b)).map (rof N)).count s = f s := by
  have a := lft_count h hb s
  have c := e s
  rw [List.count_append]
  by_cases z : s = rof N b
  · rw [if_pos z] at a
    rw [show [rof N b].count s = 1 by rw [z, List.count_singleton_self], Nat.mul_add, Nat.mul_one]
    omega
  · rw [if_neg z] at a
    rw [List.count_eq_zero.mpr fun q => z (List.mem_singleton.mp q), Nat.add_zero]
    omega
theorem lft_len {N : Int} {F : List (List Int)} (h : Cl N F) {b : List Int} (hb : b ∈ F) : (lft N F b (rof N b)).length + 1 ≤ F.length := by
  have R := rof_is (h.ro b hb)
  have sub : (lft N F b (rof N b)).length ≤ F.length := List.length_filter_le _ _
  refine Nat.lt_of_le_of_ne sub fun e => ?_
  have e2 : ∀ c ∈ F, decide (c ∉ orb N b (rof N b)) = true := List.length_filter_eq_length_iff.mp e
  exact of_decide_eq_true (e2 b hb) (mem_orb.mpr ⟨0, R.1, rfl⟩)
end BB
end
section
/-! for k in d: a dict with ints and texts for keys, held fixed. -/
namespace L2
open PySem PySem.Spec PySem.W PyProof.Rows
set_option maxHeartbeats 4000000
set_option maxRecDepth 100000
set_option Elab.async false
set_option linter.unusedVariables false
def Itk (d : Addr) (o : Obj) : It :=
  ⟨fun i H => ∃ kvs, H d = some (.frz o (.dK kvs)) ∧ i < kvs.length, fun i H x H' => H' = H ∧ ∃ kvs kv, H d = some (.frz o (.dK kvs)) ∧ kvs[i]? = some kv ∧ x = kV kv.1, fun i H => ∃ kvs, H d = some (.frz o (.dK kvs)) ∧ kvs.length ≤ i⟩
theorem prs_get {P : Program} {w : World} : ∀ {es : List DictEntry} {vs : List (Key × Value)} {i : Nat} {q : Key × Value}, Pairs (mixKind P w) es vs → vs[i]? = some q → ∃ e, es[i]? = some e ∧ keyIs q.1 e.key = true
  | _, _, _, _, .nil, e => by cases e
  | _, _, 0, _, .cons a _ _, e => by cases e; exact ⟨_, rfl, a⟩
  | _, _, i + 1, _, .cons _ _ t, e => prs_get (i := i) t e
theorem key_rel {k : Key} {v : Value} (h : keyIs k v = true) : RelV (kV k) v := by
  rcases keyIs_shape h with ⟨i, t, rfl, rfl⟩ | ⟨x, t, rfl, rfl⟩
  · exact ⟨t, rfl⟩
  · exact ⟨t, rfl⟩
/-- the entries of a dict with ints and texts for keys -/
theorem raw_dK {P : Program} {w : World} {H : Hp} {h : Heap} {d : Addr} {o : Obj} {kvs : List (Key × V)} (hd : ObjOk P w H h d (.frz o (.dK kvs))) : (d == sysModules) = false ∧ kvs.length ≤ sizeLine ∧
    ∃ es ep, o.cls = .type "dict" ∧ o.data = .dict es ep ∧ h.get? d = some o ∧ es.size = kvs.length ∧ ∀ (i : Nat) (kv : Key × V), kvs[i]? = some kv → ∃ hi : i < es.size, RelV (kV kv.1) es[i].key := by
  obtain ⟨h0, z, ns, vs, kp, o', es, ep, h1, ex, da, ko, pr, nd⟩ := (show h.get? d = some o ∧ ObjOk P w H h d (.dK kvs) from hd)
  rw [h0] at h1
  cases h1
  have lx : kvs.length = vs.length := KV.length kp
  have le : es.size = kvs.length := by rw [← Array.length_toList, pr.length, lx]
  refine ⟨ns, z, es, ep, ex.1, da, h0, le, fun i kv e => ?_⟩
  obtain ⟨q, eq, q1, _⟩ := paired_get kp e
  obtain ⟨en, ee, ek⟩ := prs_get pr eq
  have hi : i < es.size := by rw [le]; exact (List.getElem?_eq_some_iff.mp e).1
  rw [Array.getElem?_toList, Array.getElem?_eq_getElem hi] at ee
  cases ee
  exact ⟨hi, by rw [q1]; exact key_rel ek⟩
theorem turn_dK {P : Program} {w : World} {K : PySem.W.Frag} {tg : Expr} (d it : Addr) (o : Obj) (es : Array DictEntry) (ep : Nat) (he : o.data = .dict es ep) : Turn P w K tg (Itk d o) [it] it (fun i h => IsKI h it d i es.size ep) where
  mem := by simp
  obj := fun i h st b hb => by
    have e : b = it := by simpa using hb
    subst e
    exact ⟨_, st, fun v z => nomatch z⟩
  keep := fun i h h' st k => k it (by simp) _ st
  item := by
    intro X hP hw hK hc i pins s σ H E I hf st hg
    subst hP hw hK
    obtain ⟨kvs, hd1, hi1⟩ := hg
    obtain ⟨ns, zl, es', ep', c1, c2, c3, c4, c5⟩ := raw_dK (I.hok d _ hd1)
    rw [he] at c2
    cases c2
    obtain ⟨hi, k1⟩ := c5 i _ (List.getElem?_eq_getElem hi1)
    obtain ⟨f0, f1, f2, f3, f4, f5⟩ := hf it (by simp)
    refine ki_item st ⟨o, c3, c1, he⟩ hi fun h' st' sb => ?_
    have I1 : Inv X pins σ H { s with heap := h' } := I.turned (t' := s.toks) (fun b o hb e => (sb.2 b hb).trans e) f0 f1 f3 f4 f5
    exact ⟨_, rfl, go_of (s := { s with heap := h' }) st' rfl rfl (by decide) ⟨kV kvs[i].1, H, I1, k1, ⟨rfl, kvs, _, hd1, List.getElem?_eq_getElem hi1, rfl⟩, st', fun b hb => (hf b hb).1⟩⟩
  done := by
    intro X hP hw hK hc i pins s σ H E I hf st hg
    subst hP hw hK
    obtain ⟨kvs, hd1, hi1⟩ := hg
    obtain ⟨ns, zl, es', ep', c1, c2, c3, c4, c5⟩ := raw_dK (I.hok d _ hd1)
    rw [he] at c2
    cases c2
    obtain ⟨f0, f1, f2, f3, f4, f5⟩ := hf it (by simp)
    exact ki_end (I.ok.hd hc) st ⟨o, c3, c1, he⟩ (by omega) fun h' tk eb => ⟨rfl, I.turned (t' := tk) (fun b o hb e => eb b o hb e) f0 f1 f3 f4 f5⟩
  self := fun A i s Q E st h => by
    obtain ⟨hp, g, dr, tk, os⟩ := s
    have hT : Shared.TypeIs ⟨hp, g, dr, tk, os⟩ (.ref it) "dict_keyiterator" := ⟨_, st, rfl⟩
    refine wpAny_pyIter_slot hT F.slot_dict_keyiterator_iter (wpAny_call_entry F.slot_dict_keyiterator_iter hT F.entry_dict_keyiterator_iter ?_ (F.args_dict_keyiterator_iter_1 _))
    unfold Builtin.«dict_keyiterator.__iter__»
    wp_walk
    exact ⟨_, rfl, "dict_keyiterator", _, hT, F.slot_dict_keyiterator_next.lookup, h⟩
section
variable {X : Cx} {tg : Expr}
/-- the dict is held fixed from here on -/
def iDI (tl : TE) : TI := fun σ H R => tl σ H fun x H1 => ∃ (d : Addr) (kvs : List (Key × V)), x = .ref d ∧ H1 d = some (.dK kvs) ∧ ∀ (o : Obj) (J : It),
  (∀ i H2, H2 d = some (.frz o (.dK kvs)) → (∀ kv, kvs[i]? = some kv → J.go i H2 ∧ ∀ x H3, J.yld i H2 x H3 → H3 = H2 ∧ x = kV kv.1) ∧ (kvs.length ≤ i → J.stop i H2)) → R J (upd H1 d (.frz o (.dK kvs)))
theorem pi_dI {l : Expr} {tl : TE} (hl : PE X l tl) : PI X tg l (iDI tl) := by
  intro pins s σ H R I h
  refine thn (hl pins s σ H _ I h) fun v s1 ⟨x, H1, I1, r1, q1⟩ => ?_
  obtain ⟨d, kvs, e, hd, q⟩ := q1
  subst e
  cases r1
  obtain ⟨zl, ns, vs, kp, o, es, ep, h1, ex, da, ko, pr, nd⟩ := (show ObjOk X.prog X.w H1 s1.heap d (.dK kvs) from I1.hok d _ hd)
  have new : ObjOk X.prog X.w (upd H1 d (.frz o (.dK kvs))) s1.heap d (.frz o (.dK kvs)) := ⟨h1, zl, ns, vs, kp, o, es, ep, h1, ex, da, ko, pr, nd⟩
  have I2 : Inv X pins σ (upd H1 d (.frz o (.dK kvs))) s1 := d_write (t' := s1.toks) I1 (by rw [hd]; exact trivial) (Heap.SameBut.refl _ _) ⟨_, h1⟩ new
  refine ki_iter ns ⟨o, h1, ex.1, da⟩ fun h' st k => ?_
  have I3 := I2.kept (t' := s1.toks) k
  have fr : (upd H1 d (.frz o (.dK kvs))) s1.heap.objs.size = none := I2.hok.fresh (Nat.le_refl _)
  refine ⟨s1.heap.objs.size, [s1.heap.objs.size], _, _, _, rfl, I3, turn_dK d _ o es ep da, st, fun b hb => ?_, q o _ fun i H2 h2 => ⟨fun kv e => ⟨⟨kvs, h2, (List.getElem?_eq_some_iff.mp e).1⟩, fun x H3 hy => ⟨hy.1, ?_⟩⟩, fun hi => ⟨kvs, h2, hi⟩⟩⟩
  · have e : b = s1.heap.objs.size := by simpa using hb
    subst e
    exact I2.fpOk (Nat.le_refl _) fr
  · obtain ⟨_, kvs', kv', h3, e3, e4⟩ := hy
    rw [h2] at h3
    cases h3
    rw [e] at e3
    cases e3
    exact e4
end
end L2
end
section
/-! A comprehension by an invariant, with a test. -/
namespace L2
open PySem PySem.Spec PyProof.Rows
set_option maxHeartbeats 4000000
set_option Elab.async false
set_option linter.unusedVariables false
section
variable {X : Cx} {elt iter : Expr} {ifs : List Expr} {scope : Scope} {px py tp pos pos' spos : Pos} {k ii : Nat} {x y nm : Str} {N N0 : List Str} {js : List Nat} {sc : Scope} {wi : TI} {tt : TT} {te : TE}
end
theorem comp_any {J : It} {g : TG} {tt : TT} {te : TE} {Q : VK} {D : Addr} {H1 : Hp} {σ0 : St} (n : Nat) (hn : n ≤ sizeLine) (Pv : Nat → St → Hp → List V → Prop) (itm : Nat → Hp → V → Prop)
    (h0 : Pv 0 σ0 (upd H1 D (.lst [])) []) (hD : ∀ i σ H ys, Pv i σ H ys → H D = some (.lst ys) ∧ ys.length ≤ i)
    (items : ∀ i σ H ys, Pv i σ H ys → (i < n → J.go i H ∧ ∀ x H2, J.yld i H x H2 → Same H H2 ∧ itm i H2 x) ∧ (n ≤ i → J.stop i H))
    (step : ∀ i x σ H H2 ys, i < n → Pv i σ H ys → Same H H2 → itm i H2 x → ∀ (A : St → V → Hp → Prop) (B : St → Hp → Prop), (∀ σ3 y H5, H5 D = some (.lst ys) → Pv (i + 1) σ3 (upd H5 D (.lst (ys ++ [y]))) (ys ++ [y]) → A σ3 y H5) →
      (∀ σ3 H4, Pv (i + 1) σ3 H4 ys → B σ3 H4) → g x σ H2 fun σ3 H3 => tt σ3 H3 fun ok H4 => if ok = true then te σ3 H4 (A σ3) else B σ3 H4)
    (fin : ∀ σ H ys, Pv n σ H ys → Q (.ref D) H) : cmpW J g tt te Q D σ0 H1 := by
  refine ⟨fun i m σ H => m = n - i ∧ i ≤ n ∧ ∃ ys, Pv i σ H ys, ⟨n, by omega, Nat.zero_le _, [], h0⟩, ?_⟩
  rintro i m σ H ⟨rfl, hi, ys, pv⟩
  by_cases hlt : i < n
  · obtain ⟨go, yl⟩ := (items i σ H ys pv).1 hlt
    refine .inr ⟨go, fun x H2 y => ?_⟩
    obtain ⟨sm, im⟩ := yl x H2 y
    refine step i x σ H H2 ys hlt pv sm im (fun σ3 y H5 => ∃ ys, H5 D = some (.lst ys) ∧ ys.length < sizeLine ∧ ∃ m', m' < n - i ∧ (m' = n - (i + 1) ∧ i + 1 ≤ n ∧ ∃ zs, Pv (i + 1) σ3 (upd H5 D (.lst (ys ++ [y]))) zs)) (fun σ3 H4 => ∃ m', m' < n - i ∧ (m' = n - (i + 1) ∧ i + 1 ≤ n ∧ ∃ zs, Pv (i + 1) σ3 H4 zs)) (fun σ3 y H5 e p => ?_) (fun σ3 H4 p => ?_)
    · have := (hD _ _ _ _ pv).2
      exact ⟨ys, e, by omega, n - (i + 1), by omega, rfl, by omega, _, p⟩
    · exact ⟨n - (i + 1), by omega, rfl, by omega, _, p⟩
  · have e : i = n := by omega
    subst e
    exact .inl ⟨(items i σ H ys pv).2 (Nat.le_refl _), fin σ H ys pv⟩
end L2
end
section
namespace K64
open PySem PySem.Spec PyProof.Rows L2
set_option maxHeartbeats 4000000
set_option maxRecDepth 100000
set_option Elab.async false
set_option linter.unusedVariables false
theorem tl_app {H : Hp} {L : Addr} {ys zs : List V} {A B : List (List V)} (hL : H L = some (.lst (ys ++ zs))) (la : ys.length = A.length) (lb : zs.length = B.length) (ha : ∀ (j : Nat) (y : V), ys[j]? = some y → ∃ p, y = .ref p ∧ H p = some (.tup (A.getD j [])))
    (hb : ∀ (j : Nat) (y : V), zs[j]? = some y → ∃ p, y = .ref p ∧ H p = some (.tup (B.getD j []))) : TL H L (A ++ B) := by
  refine ⟨_, hL, by rw [List.length_append, List.length_append, la, lb], fun j y e => ?_⟩
  by_cases c : j < ys.length
  · rw [List.getElem?_append_left c] at e
    obtain ⟨p, e1, e2⟩ := ha j y e
    refine ⟨p, e1, ?_⟩
    rw [e2, List.getD_eq_getElem?_getD, List.getD_eq_getElem?_getD, List.getElem?_append_left (by omega)]
  · rw [List.getElem?_append_right (by omega)] at e
    obtain ⟨p, e1, e2⟩ := hb _ y e
    refine ⟨p, e1, ?_⟩
    rw [e2, List.getD_eq_getElem?_getD, List.getD_eq_getElem?_getD, List.getElem?_append_right (by omega), la]
theorem hu0 {k : Nat} {A : Around} (r : Room k A) : A.units < cLine := by have := r.un; omega
theorem hu3 {k : Nat} {A : Around} (r : Room k A) : A.units + 3 < cLine := by have := r.un; omega
theorem hu4 {k : Nat} {A : Around} (r : Room k A) : A.units + 4 < cLine := by have := r.un; omega
theorem tup_past {H : Hp} {p D : Addr} {xs ys : List V} {o : HO} (h : H p = some (.tup xs)) (hD : H D = some (.lst ys)) : upd H D o p = some (.tup xs) := by
  rw [upd_ne (fun z => by rw [z, hD] at h; cases h)]
  exact h
theorem rgAt_past {H : Hp} {a D : Addr} {n : Int} {bs : List Int} {ys : List V} {o : HO} (h : RgAt H a n bs) (hD : H D = some (.lst ys)) : RgAt (upd H D o) a n bs := by
  obtain ⟨r, h1, h2⟩ := h
  exact ⟨r, tup_past h1 hD, tup_past h2 hD⟩
theorem rgD_same {P : Program} {w : World} {H H' : Hp} {d : Addr} {xs : List (Rng × Addr × Value)} (h : RgD P w H d xs) (s : Same H H') : RgD P w H' d xs := ⟨s _ _ h.at_, h.few, h.nsm, h.nd, fun x hx => (h.keys x hx).same s⟩
/-- the rings F of N boxes in the dict at d, counts at c -/
structure Fr (P : Program) (w : World) (H0 H : Hp) (d c : Addr) (N : Nat) (F : List (List Int)) (kvs : List (Key × V)) (xs : List (Rng × Addr × Value)) : Prop where
  sm : Same H0 H
  nd : H0 d = none
  nc : H0 c = none
  rg : RgD P w H d xs
  ks : xs.map (·.1) = F.map fun b => ((N : Int), b)
  tr : ∀ x ∈ xs, x.2.2 = Value.bool true
  hc : H c = some (.dK kvs)
theorem Fr.same {P : Program} {w : World} {H0 H H' : Hp} {d c : Addr} {N : Nat} {F : List (List Int)} {kvs : List (Key × V)} {xs : List (Rng × Addr × Value)} (h : Fr P w H0 H d c N F kvs xs) (s : Same H H') : Fr P w H0 H' d c N F kvs xs :=
  ⟨h.sm.trans s, h.nd, h.nc, rgD_same h.rg s, h.ks, h.tr, s _ _ h.hc⟩
theorem Fr.ndF {P : Program} {w : World} {H0 H : Hp} {d c : Addr} {N : Nat} {F : List (List Int)} {kvs : List (Key × V)} {xs : List (Rng × Addr × Value)} (h : Fr P w H0 H d c N F kvs xs) : F.Nodup := by
  have := h.rg.nd
  rw [h.ks] at this
  exact (List.pairwise_map.mp this).imp fun z e => z (by rw [e])
theorem Fr.dc {P : Program} {w : World} {H0 H : Hp} {d c : Addr} {N : Nat} {F : List (List Int)} {kvs : List (Key × V)} {xs : List (Rng × Addr × Value)} (h : Fr P w H0 H d c N F kvs xs) : c ≠ d := fun z => by
  have a := h.rg.at_
  rw [← z, h.hc] at a
  cases a
theorem Fr.mem {P : Program} {w : World} {H0 H : Hp} {d c : Addr} {N : Nat} {F : List (List Int)} {kvs : List (Key × V)} {xs : List (Rng × Addr × Value)} (h : Fr P w H0 H d c N F kvs xs) (b : List Int) : ((N : Int), b) ∈ xs.map (·.1) ↔ b ∈ F := by
  rw [h.ks, List.mem_map]
  exact ⟨fun ⟨c, hc, e⟩ => by cases e; exact hc, fun h => ⟨b, h, rfl⟩⟩
theorem Fr.there {P : Program} {w : World} {H0 H : Hp} {d c : Addr} {N : Nat} {F : List (List Int)} {kvs : List (Key × V)} {xs : List (Rng × Addr × Value)} (h : Fr P w H0 H d c N F kvs xs) {b : List Int} (hb : b ∈ F) : ∃ (i : Nat) (p : Addr), xs[i]? = some (((N : Int), b), p, Value.bool true) := by
  obtain ⟨x, hx, e⟩ := List.mem_map.mp ((h.mem b).mpr hb)
  obtain ⟨i, hi⟩ := List.getElem?_of_mem hx
  obtain ⟨x1, x2, x3⟩ := x
  have t := h.tr _ hx
  cases e
  cases t
  exact ⟨i, x2, hi⟩
theorem Fr.pop {P : Program} {w : World} {H0 H : Hp} {d c : Addr} {N : Nat} {F : List (List Int)} {kvs : List (Key × V)} {xs : List (Rng × Addr × Value)} (h : Fr P w H0 H d c N F kvs xs) {b : List Int} {i : Nat} {p : Addr} {v : Value} (e : xs[i]? = some (((N : Int), b), p, v)) :
    Fr P w H0 (upd H d (.ext (rawRg P w d (xs.eraseIdx i)))) d c N (F.filter fun c => decide (c ≠ b)) kvs (xs.eraseIdx i) := by
  refine ⟨fun a o ha => by rw [upd_ne (ne_of_none ha h.nd)]; exact h.sm _ _ ha, h.nd, h.nc, h.rg.erase i, ?_, fun x hx => h.tr x (List.mem_of_mem_eraseIdx hx), by rw [upd_ne h.dc]; exact h.hc⟩
  have ei : (F.map fun b => ((N : Int), b))[i]? = some ((N : Int), b) := by rw [← h.ks, List.getElem?_map, e]; rfl
  have eF : F[i]? = some b := by
    rw [List.getElem?_map] at ei
    cases z : F[i]? with
    | none => rw [z] at ei; cases ei
    | some y =>
      rw [z] at ei
      have ei : ((N : Int), y) = ((N : Int), b) := Option.some.inj ei
      cases ei
      rfl
  rw [← er_map, h.ks, er_map, BB.er_filter h.ndF eF]
theorem Fr.put {P : Program} {w : World} {H0 H : Hp} {d c : Addr} {N : Nat} {F : List (List Int)} {kvs kvs' : List (Key × V)} {xs : List (Rng × Addr × Value)} (h : Fr P w H0 H d c N F kvs xs) : Fr P w H0 (upd H c (.dK kvs')) d c N F kvs' xs := by
  refine ⟨fun a o ha => by rw [upd_ne (ne_of_none ha h.nc)]; exact h.sm _ _ ha, h.nd, h.nc, ⟨by rw [upd_ne (Ne.symm h.dc)]; exact h.rg.at_, h.rg.few, h.rg.nsm, h.rg.nd, fun x hx => ?_⟩, h.ks, h.tr, upd_same⟩
  obtain ⟨r, h1, h2⟩ := h.rg.keys x hx
  exact ⟨r, by rw [upd_ne (fun z => by have z' : x.2.1 = c := z; rw [z', h.hc] at h1; cases h1)]; exact h1, by rw [upd_ne (fun z => by rw [z, h.hc] at h2; cases h2)]; exact h2⟩
/-- the rings told one by one, for the dict -/
structure Ps (H : Hp) (D : Addr) (N : Nat) (F : List (List Int)) (ys : List V) (ks : List (Rng × Addr)) : Prop where
  hD : H D = some (.lst ys)
  len : ys.length = ks.length
  kf : ks.map (·.1) = F.map fun b => ((N : Int), b)
  at_ : ∀ (j : Nat) (v : V), ys[j]? = some v → ∃ (p : Addr) (k : Rng) (a : Addr), v = .ref p ∧ H p = some (.tup [.ref a, .bl true]) ∧ ks[j]? = some (k, a) ∧ RgAt H a k.1 k.2
theorem Ps.few {H : Hp} {D : Addr} {N : Nat} {F : List (List Int)} {ys : List V} {ks : List (Rng × Addr)} (h : Ps H D N F ys ks) : ks.length = F.length := by
  have := congrArg List.length h.kf
  rwa [List.length_map, List.length_map] at this
theorem Ps.same {H H' : Hp} {D : Addr} {N : Nat} {F : List (List Int)} {ys : List V} {ks : List (Rng × Addr)} (h : Ps H D N F ys ks) (s : Same H H') : Ps H' D N F ys ks := by
  refine ⟨s _ _ h.hD, h.len, h.kf, fun j v e => ?_⟩
  obtain ⟨p, k, a, e1, e2, e3, e4⟩ := h.at_ j v e
  exact ⟨p, k, a, e1, s _ _ e2, e3, e4.same s⟩
theorem Ps.snoc {H : Hp} {D : Addr} {N : Nat} {F : List (List Int)} {ys : List V} {ks : List (Rng × Addr)} (h : Ps H D N F ys ks) {b : List Int} {p a : Addr} (hp : H p = some (.tup [.ref a, .bl true])) (ha : RgAt H a (N : Int) b) :
    Ps (upd H D (.lst (ys ++ [.ref p]))) D N (F ++ [b]) (ys ++ [.ref p]) (ks ++ [(((N : Int), b), a)]) := by
  refine ⟨upd_same, by rw [List.length_append, List.length_append, h.len]; rfl, by rw [List.map_append, List.map_append, h.kf]; rfl, fun j v e => ?_⟩
  by_cases c : j < ys.length
  · rw [List.getElem?_append_left c] at e
    obtain ⟨q, k, a', e1, e2, e3, e4⟩ := h.at_ j v e
    exact ⟨q, k, a', e1, tup_past e2 h.hD, by rw [List.getElem?_append_left (by rw [← h.len]; exact c)]; exact e3, rgAt_past e4 h.hD⟩
  · rw [List.getElem?_append_right (by omega)] at e
    have j0 : j - ys.length = 0 := by
      have := (List.getElem?_eq_some_iff.mp e).1
      rw [List.length_singleton] at this
      omega
    rw [j0] at e
    cases e
    refine ⟨p, ((N : Int), b), a, rfl, tup_past hp h.hD, ?_, rgAt_past ha h.hD⟩
    rw [List.getElem?_append_right (by rw [← h.len]; omega), ← h.len, j0]
    rfl
/-- before a round is taken out: F is left, L are the rounds found -/
def Wo (P : Program) (w : World) (H0 : Hp) (l d c : Addr) (o3 : Option V) (N k m : Nat) (σ : L2.St) (H : Hp) : Prop :=
  ∃ (F : List (List Int)) (xs : List (Rng × Addr × Value)) (kvs : List (Key × V)) (L : List Nat) (o6 o7 : Option V), σ = [some (.int (N : Int)), some (.int (k : Int)), some (.ref l), o3, some (.ref d), some (.ref c), o6, o7] ∧ Fr P w H0 H d c N F kvs xs ∧ BB.Cl (N : Int) F ∧ (∀ b ∈ F, BB.Way N k b) ∧ DK kvs L ∧
    (∀ s, s * L.count s + (F.map (BB.rof (N : Int))).count s = (BB.rofL N k).count s) ∧ (∀ s ∈ L, s ∈ BB.rofL N k) ∧ L.length + F.length ≤ 252 ∧ m = F.length
/-- j steps of b's round are out -/
def Wi (P : Program) (w : World) (H0 : Hp) (l d c : Addr) (o3 : Option V) (N k : Nat) (F : List (List Int)) (b : List Int) (kvs : List (Key × V)) (m : Nat) (σ : L2.St) (H : Hp) : Prop :=
  ∃ (j : Nat) (xs : List (Rng × Addr × Value)) (p : Addr), σ = [some (.int (N : Int)), some (.int (k : Int)), some (.ref l), o3, some (.ref d), some (.ref c), some (.ref p), some (.int (j : Int))] ∧ Fr P w H0 H d c N (BB.lft (N : Int) F b j) kvs xs ∧ RgAt H p (N : Int) (BB.itR (N : Int) j b) ∧ j ≤ BB.rof (N : Int) b ∧ m = BB.rof (N : Int) b - j
def spDue : Sp := fun vs H Q _ => ∃ (N k : Nat), vs = [.int (N : Int), .int (k : Int)] ∧ 1 ≤ N ∧ N ≤ 10 ∧ k < (N + 1) / 2 ∧
  ∀ (l : Addr) (H' : Hp) (S : List Nat), Same H H' → S.Pairwise (· < ·) → (∀ s, s ∈ S ↔ s ∈ BB.rofL N k) → TL H' l (S.map fun (s : Nat) => [.int (s : Int), .int (((BB.rofL N k).count s / s : Nat) : Int)]) → Q (.ref l) H'
section
variable {P : Program} {w : World} {K : PySem.W.Frag} {mg : Str → Option Value} {base : Heap}
set_option maxRecDepth 100000 in
theorem ok_L_due {f : Addr} {fd : FuncData} (F : Fun K "_law_due" "_law_due" s_L_due f fd) (nb : Nb3 mg) (h_L_stepped : Has P w K mg base 1 "_law_stepped" ["_law_ring", "_law_way"] spStp)  :
    FnOk P w K mg base CX0 4 f fd ["_law_many", "_law_few"] spDue := by
  have nd := sc_L_due.nd
  refine F.ok (k := 3) sc_L_due (fun vs H Q E h => ?_) (fun cdv A outer s H vs Q E hr h => ?_)
  · obtain ⟨N, k, rfl, _⟩ := h
    rfl
  obtain ⟨N, k, rfl, N1, N9, kh, q⟩ := h
  refine ⟨_, (pss_cons (ps_set (i := 2) nd rfl (Or.inl rfl) (pe_lst (pa_cons (pe_tup pa_nil) pa_nil)))
(pss_cons (ps_for PassesOwn.never rfl (pi_range1 rfl nb.range (pa_cons (pv 0) pa_nil)) (pg_name (i := 3) nd rfl (Or.inr rfl))
(pss_one (ps_set (i := 2) nd rfl (Or.inl rfl) (pe_op op_cat (pv 2) (pe_comp1 (sc := defScope s_L_due) (N0 := ["_law_many", "_law_few", "_law_rings", "_law_box", "_law_fresh", "_law_counts", "_law_here", "_law_steps"]) (N := ["_law_box"]) (js := [3]) rfl rfl rfl (by exact ⟨rfl, by decide +kernel, by decide +kernel, by decide +kernel, rfl, rfl, by decide, by decide +kernel, by decide +kernel⟩) rfl
(pi_list (pv 2))
(fun _ _ _ _ _ => by exact pts_nil)
(fun _ _ _ _ _ => by exact (pe_op (op_catW K rfl) (pv 0) (pe_tup (pa_cons (pv 1) pa_nil)))))))))
(pss_cons (ps_set (i := 4) nd rfl (Or.inl rfl) (pe_callTy (show CallR _ _ (rDictRg P w) from call_dictRg rfl (hu4 hr)) rfl nb.dict boot_dict (pa_cons (pe_comp1 (sc := defScope s_L_due) (N0 := ["_law_many", "_law_few", "_law_rings", "_law_box", "_law_fresh", "_law_counts", "_law_here", "_law_steps"]) (N := ["_law_many", "_law_few"]) (js := [0, 1]) rfl rfl rfl (by exact ⟨rfl, by decide +kernel, by decide +kernel, by decide +kernel, rfl, rfl, by decide, by decide +kernel, by decide +kernel⟩) rfl
(pi_list (pv 2))
(fun _ _ _ _ _ => by exact (pts_one (pt_cmpR op_eq (pe_callB (call_lenK K rfl) rfl nb.len PySem.boot_len (pa_cons (pv 0) pa_nil)) (pv 2) (nomark _))))
(fun _ _ _ _ _ => by exact (pe_tup (pa_cons (pe_tup (pa_cons (pv 1) (pa_cons (pv 0) pa_nil))) (pa_cons pe_bl pa_nil))))) pa_nil)))
(pss_cons (ps_set (i := 5) nd rfl (Or.inr rfl) pe_dnewK)
(pss_cons (ps_while PassesOwn.never (pt_cmpR (show OpR _ _ (rNeRg P w) from op_neRg (hu0 hr)) (pv 4) pe_dnewK (nomark _))
(pss_cons (ps_set (i := 6) nd rfl (Or.inl rfl) (pe_ix ix_list (pe_callTy (show CallR _ _ (rListRg P w) from call_listRg rfl) rfl nb.list boot_list (pa_cons (pv 4) pa_nil)) pe_int (fun _ _ => rfl)))
(pss_cons (ps_set (i := 7) nd rfl (Or.inl rfl) pe_int)
(pss_cons (ps_while PassesOwn.never (pt_cmpR (show OpR _ _ (rInRg P w) from op_inRg (hu3 hr)) (pv 6) (pv 4) rfl)
(pss_cons (ps_expr (show PE _ _ (tRPop P w (tVar 4) (tVar 6)) from pe_rpop (hu3 hr) (pv 4) (pv 6) ⟨rfl, rfl, rfl, rfl⟩))
(pss_cons (ps_set (i := 6) nd rfl (Or.inl rfl) (pe_def h_L_stepped hr (pa_cons (pv 6) (pa_cons pe_int pa_nil))))
(pss_one (ps_set (i := 7) nd rfl (Or.inl rfl) (pe_op op_add (pv 7) pe_int))))))
(pss_one (ps_dput (hu1 hr) (pv 5) (pv 7) (pe_op op_add (pe_dget2 (hu1 hr) (pv 5) (pv 7) pe_int ⟨rfl, rfl, rfl, rfl⟩) pe_int) rfl))))))
(pss_one (ps_ret (pe_callB call_sortP rfl nb.sorted boot_sorted (pa_cons (pe_comp1 (sc := defScope s_L_due) (N0 := ["_law_many", "_law_few", "_law_rings", "_law_box", "_law_fresh", "_law_counts", "_law_here", "_law_steps"]) (N := ["_law_counts"]) (js := [5]) rfl rfl rfl (by exact ⟨rfl, by decide +kernel, by decide +kernel, by decide +kernel, rfl, rfl, by decide, by decide +kernel, by decide +kernel⟩) rfl
(pi_dI (pv 5))
(fun _ _ _ _ _ => by exact pts_nil)
(fun _ _ _ _ _ => by exact (pe_tup (pa_cons (pv 0) (pa_cons (pe_dget (hu1 hr) (pv 1) (pv 0) (fun _ _ => rfl)) pa_nil))))) pa_nil))))))))), ?_⟩
  refine ⟨(by show 0 ≤ sizeLine; decide), fun e0 he0 => ⟨(by show 1 ≤ sizeLine; decide), fun l0 hl0 => ?_⟩⟩
  have t0 : TL (upd (upd H e0 (.tup [])) l0 (.lst [.ref e0])) l0 ((BB.dblL 0).map (·.map V.int)) := by
    refine ⟨_, upd_same, rfl, fun j y e => ?_⟩
    cases j with
    | zero =>
      cases e
      exact ⟨e0, rfl, same_new hl0 _ _ _ upd_same⟩
    | succ j => cases e
  have s1 := (same_new he0 (.tup [])).trans (same_new hl0 (.lst [.ref e0]))
  generalize upd (upd H e0 (.tup [])) l0 (.lst [.ref e0]) = H1 at s1 t0 ⊢
  refine ⟨_, rfl, _, rfl, by omega, by omega, ?_⟩
  refine for_range (fun i σ H' => ∃ (l : Addr) (o3 o4 o5 o6 o7 : Option V), σ = [some (.int (N : Int)), some (.int (k : Int)), some (.ref l), o3, o4, o5, o6, o7] ∧ Same H H' ∧ TL H' l ((BB.dblL i).map (·.map V.int))) ⟨l0, _, _, _, _, _, rfl, s1, t0⟩ (fun i σ H' hi hp => ?_) (fun σ H' hp => ?_)
  · obtain ⟨l, o3, o4, o5, o6, o7, rfl, sm, ys, hl, hlen, hy⟩ := hp
    rw [List.length_map] at hlen
    have dl := BB.dbl_len i
    have iN : i < N := by omega
    have p2 : 2 ^ i ≤ 2 ^ 10 := Nat.pow_le_pow_right (by decide) (by omega)
    refine ⟨_, rfl, _, rfl, l, rfl, ⟨_, SqL.of hl⟩, fun D hD => ?_⟩
    refine comp_tups ys.length (by rw [sizeLine_eq]; omega) (fun j => ((BB.dblL i).getD j []).map V.int ++ [.int (i : Int)]) (fun σ => ∃ o1, σ = [o1, some (.int (0 + (i : Int)))]) _ hD ⟨_, rfl⟩ (items_lst hl) (fun j z σ' H2 hj s2 im hσ R hR => ?_) (fun H3 zs s3 hD3 hl3 hzs => ?_)
    · obtain ⟨o1, rfl⟩ := hσ
      obtain ⟨p, rfl, hp⟩ := hy j z im
      have e1 : ((BB.dblL i).map (·.map V.int)).getD j [] = ((BB.dblL i).getD j []).map V.int := by
        rw [List.getD_eq_getElem?_getD, List.getD_eq_getElem?_getD, List.getElem?_map]
        cases (BB.dblL i)[j]? <;> rfl
      rw [e1] at hp
      have bl : ((BB.dblL i).getD j []).length ≤ 10 := by
        rw [List.getD_eq_getElem?_getD]
        cases e2 : (BB.dblL i)[j]? with
        | none => exact Nat.zero_le _
        | some r => have := (BB.dbl_way (List.mem_of_getElem? e2)).2.1; show r.length ≤ 10; omega
      refine ⟨_, rfl, _, rfl, (by show 1 ≤ sizeLine; decide), fun b hb => ?_⟩
      have s4 := same_new hb (.tup [.int (0 + (i : Int))])
      refine ⟨p, b, _, _, rfl, rfl, s4 _ _ (s2 _ _ hp), upd_same, by rw [List.length_map, sizeLine_eq, List.length_singleton]; omega, fun p2 H5 s5 h5 => hR _ _ _ ⟨_, rfl⟩ (s4.trans s5) ?_⟩
      rw [h5, Int.zero_add]
    · refine ⟨l, D, _, _, rfl, rfl, s3 _ _ hl, hD3, by rw [sizeLine_eq]; omega, fun L hL => ?_⟩
      have s4 := same_new hL (.lst (ys ++ zs))
      refine ⟨L, _, _, _, _, _, rfl, (sm.trans s3).trans s4, ?_⟩
      have e2 : (BB.dblL (i + 1)).map (·.map V.int) = (BB.dblL i).map (·.map V.int) ++ ((BB.dblL i).map fun r => r ++ [(i : Int)]).map (·.map V.int) := by
        show (BB.dblL i ++ _).map _ = _
        rw [List.map_append]
      rw [e2]
      refine tl_app upd_same (by rw [List.length_map]; exact hlen) (by rw [List.length_map, List.length_map, hl3]; exact hlen) (fun j y e => ?_) (fun j y e => ?_)
      · obtain ⟨p, x1, x2⟩ := hy j y e
        exact ⟨p, x1, s4 _ _ (s3 _ _ x2)⟩
      · obtain ⟨p, x1, x2⟩ := hzs j y e
        refine ⟨p, x1, ?_⟩
        have jl : j < (BB.dblL i).length := by have := (List.getElem?_eq_some_iff.mp e).1; omega
        rw [s4 _ _ x2, List.getD_eq_getElem?_getD, List.getD_eq_getElem?_getD, List.getElem?_map, List.getElem?_map, List.getElem?_eq_getElem jl]
        show some (HO.tup ((BB.dblL i)[j].map V.int ++ [V.int (i : Int)])) = some (HO.tup (((BB.dblL i)[j] ++ [(i : Int)]).map V.int))
        rw [List.map_append]
        rfl
  · obtain ⟨l, o3, o4, o5, o6, o7, rfl, sm, t1⟩ := hp
    rw [Int.toNat_natCast] at t1
    obtain ⟨ys, hl, hlen, hy⟩ := t1
    rw [List.length_map] at hlen
    have dl := BB.dbl_len N
    have p2 : 2 ^ N ≤ 2 ^ 10 := Nat.pow_le_pow_right (by decide) (by omega)
    have at_ : ∀ j, j < (BB.dblL N).length → ∃ p, ys[j]? = some (.ref p) ∧ H' p = some (.tup (((BB.dblL N).getD j []).map V.int)) := fun j hj => by
      obtain ⟨p, e1, e2⟩ := hy j _ (List.getElem?_eq_getElem (by omega : j < ys.length))
      refine ⟨p, by rw [List.getElem?_eq_getElem (by omega : j < ys.length), e1], ?_⟩
      rw [e2, List.getD_eq_getElem?_getD, List.getD_eq_getElem?_getD, List.getElem?_map, List.getElem?_eq_getElem hj]
      rfl
    refine ⟨_, rfl, l, rfl, ⟨_, SqL.of hl⟩, fun D hD => ?_⟩
    refine comp_any ys.length (by rw [sizeLine_eq]; omega) (fun i σ H2 zs => ∃ (o1 : Option V) (ks : List (Rng × Addr)), σ = [o1, some (.int (N : Int)), some (.int (k : Int))] ∧ Same H' H2 ∧ zs.length ≤ i ∧ Ps H2 D N (((BB.dblL N).take i).filter fun r => decide (r.length = k)) zs ks) (fun i H2 x => ys[i]? = some x) ⟨_, [], rfl, same_new hD _, Nat.le_refl _, ⟨upd_same, rfl, rfl, fun j v e => by cases e⟩⟩ (fun i σ H2 zs hp => ?_) (fun i σ H2 zs hp => ?_) (fun i x σ H2 H3 zs hi hp s3 im A B hA hB => ?_) (fun σ H2 zs hp => ?_)
    · obtain ⟨o1, ks, rfl, s2, zl, ps⟩ := hp
      exact ⟨ps.hD, zl⟩
    · obtain ⟨o1, ks, rfl, s2, zl, ps⟩ := hp
      exact items_lst hl i H2 s2
    · obtain ⟨o1, ks, rfl, s2, zl, ps⟩ := hp
      obtain ⟨p, e1, e2⟩ := at_ i (by omega)
      rw [e1] at im
      cases im
      have s23 := s2.trans s3
      have il : i < (BB.dblL N).length := by omega
      have tk : ((BB.dblL N).take (i + 1)).filter (fun r => decide (r.length = k)) = ((BB.dblL N).take i).filter (fun r => decide (r.length = k)) ++ ([(BB.dblL N).getD i []].filter fun r => decide (r.length = k)) := by
        rw [List.take_add_one, List.getElem?_eq_getElem il, List.filter_append, List.getD_eq_getElem?_getD, List.getElem?_eq_getElem il]
        rfl
      generalize (BB.dblL N).getD i [] = row at e2 tk
      refine ⟨_, rfl, p, _, rfl, .inr (SqT.of (s23 _ _ e2)), _, rfl, rfl, _, rfl, ?_⟩
      rw [List.length_map]
      by_cases cc : row.length = k
      · rw [decide_eq_true (by rw [cc])]
        rw [List.filter_cons, if_pos (decide_eq_true cc)] at tk
        refine iteT ⟨_, rfl, _, rfl, (by show 2 ≤ sizeLine; decide), fun a ha => ⟨(by show 2 ≤ sizeLine; decide), fun z hz => ?_⟩⟩
        have c1 := same_new ha (.tup [.int (N : Int), .ref p])
        have c2 := same_new hz (.tup [.ref a, .bl true])
        have ra : RgAt (upd (upd H3 a (.tup [.int (N : Int), .ref p])) z (.tup [.ref a, .bl true])) a (N : Int) row := ⟨p, c2 _ _ upd_same, c2 _ _ (c1 _ _ (s23 _ _ e2))⟩
        have pz := ps.same ((s3.trans c1).trans c2)
        have pw := pz.snoc upd_same ra
        refine hA _ _ _ pz.hD ⟨_, _, rfl, fun b o e => ?_, by rw [List.length_append]; exact Nat.succ_le_succ zl, by rw [tk]; exact pw⟩
        rw [upd_ne (ne_of_none e hD)]
        exact c2 _ _ (c1 _ _ (s23 _ _ e))
      · rw [List.filter_cons, if_neg (by rw [decide_eq_false cc]; exact Bool.false_ne_true)] at tk
        rw [decide_eq_false (fun z => cc (by injection z with z; omega))]
        refine iteF (hB _ _ ⟨_, ks, rfl, s23, by omega, ?_⟩)
        rw [tk]
        show Ps _ _ _ (_ ++ []) _ _
        rw [List.append_nil]
        exact ps.same s3
    · obtain ⟨o1, ks, rfl, s2, zl, ps⟩ := hp
      rw [List.take_of_length_le (by omega)] at ps
      have cl := BB.cl_first N9 kh
      have f252 : ((BB.dblL N).filter fun r => decide (r.length = k)).length ≤ 252 := by
        rw [← (BB.dbl_ways N N9 k (by omega)).length_eq]
        exact BB.few_ways N N9 k (by omega)
      refine ⟨D, zs, ks, rfl, ps.hD, ps.len, by rw [ps.few]; omega, by rw [ps.kf]; exact List.pairwise_map.mpr (cl.nd.imp fun z e => z (by cases e; rfl)), ps.at_, fun d hd rg => fun c hc => ?_⟩
      have S2 := (sm.trans s2).trans (same_new hd (.ext (rawRg P w d (withT ks))))
      have S3 := S2.trans (same_new hc (.dK []))
      have f0 : Fr P w H (upd (upd H2 d (.ext (rawRg P w d (withT ks)))) c (.dK [])) d c N ((BB.dblL N).filter fun r => decide (r.length = k)) [] (withT ks) := by
        refine ⟨S3, none_back (sm.trans s2) hd, none_back S2 hc, rgD_same rg (same_new hc _), by rw [withT_keys]; exact ps.kf, fun x hx => ?_, upd_same⟩
        obtain ⟨y, _, rfl⟩ := List.mem_map.mp hx
        rfl
      generalize upd (upd H2 d (.ext (rawRg P w d (withT ks)))) c (.dK []) = H4 at f0 ⊢
      dsimp only
      refine seq_while ?_
      have wy0 : ∀ b ∈ (BB.dblL N).filter (fun r => decide (r.length = k)), BB.Way N k b := fun b hb => (BB.few_way N9 (by omega)).mp hb
      refine ⟨Wo P w H l d c o3 N k, ⟨_, _, withT ks, [], [], o6, o7, rfl, f0, cl, wy0, DK.nil, fun s => ?_, fun s hs => absurd hs List.not_mem_nil, by rw [List.length_nil, Nat.zero_add]; exact f252, rfl⟩, fun m σ H5 hp => ?_⟩
      · rw [List.count_nil, Nat.mul_zero, Nat.zero_add]
        exact BB.cnt_first N9 (by omega) s
      clear wy0 cl f252 f0 rg S2 S3 ps s2 hy at_
      obtain ⟨F, xs, kvs, L, p6, p7, rfl, fr, cl, wy, dk, eq, LR, ll, rfl⟩ := hp
      refine ⟨_, rfl, fun e he => ⟨d, e, xs, rfl, rfl, rgD_same fr.rg (same_new he _), upd_same, _, rfl, ?_⟩⟩
      have fr := fr.same (same_new he (.dK []))
      generalize upd H5 e (.dK []) = H6 at fr ⊢
      cases F with
      | nil =>
        have xe : xs = [] := List.map_eq_nil_iff.mp fr.ks
        subst xe
        refine iteF ?_
        obtain ⟨kz, k1, k2, k3, k4⟩ := dk.ks
        have km := dk.mem k1
        have kl : kz.length < 64 := by
          have := BB.many_in kz ((List.range 52).map fun (m : Nat) => (m : Int)) k2 fun z hz => by
            obtain ⟨n, rfl⟩ := k3 z hz
            have := LR n (List.count_pos_iff.mp ((km n).mp hz))
            exact List.mem_map.mpr ⟨n, List.mem_range.mpr (by have := BB.rofL_le this; omega), rfl⟩
          rw [List.length_map, List.length_range] at this
          omega
        have lz : kvs.length = kz.length := by have := congrArg List.length k1; rwa [List.length_map, List.length_map] at this
        have kat : ∀ i, i < kz.length → ∃ kv, kvs[i]? = some kv ∧ kv.1 = Sum.inl (kz.getD i 0) := fun i hi => by
          have a := congrArg (fun l => l[i]?) k1
          simp only [List.getElem?_map] at a
          rw [List.getElem?_eq_getElem hi, List.getElem?_eq_getElem (by omega : i < kvs.length)] at a
          refine ⟨_, List.getElem?_eq_getElem (by omega), ?_⟩
          rw [List.getD_eq_getElem?_getD, List.getElem?_eq_getElem hi]
          exact Option.some.inj a
        refine ⟨_, rfl, c, kvs, rfl, fr.hc, fun o J hJ D2 hD2 => ?_⟩
        have fz : (upd H6 c (.frz o (.dK kvs))) c = some (.frz o (.dK kvs)) := upd_same
        have S7 : Same H (upd H6 c (.frz o (.dK kvs))) := fun b u e => by
          rw [upd_ne (ne_of_none e fr.nc)]
          exact fr.sm _ _ e
        generalize upd H6 c (.frz o (.dK kvs)) = H7 at fz S7 hD2 ⊢
        refine comp_tups kz.length (by rw [sizeLine_eq]; omega) (fun i => [.int (kz.getD i 0), .int ((L.count (kz.getD i 0).toNat : Nat) : Int)]) (fun σ => ∃ o1, σ = [o1, some (.ref c)]) (fun i H' x => x = .int (kz.getD i 0)) hD2 ⟨_, rfl⟩ (fun i H8 s8 => ⟨fun hi => ?_, fun hi => (hJ i H8 (s8 _ _ fz)).2 (by omega)⟩) (fun i x σ' H8 hi s8 im hσ R hR => ?_) (fun H8 zs s8 hD8 hl8 hzs => ?_)
        · obtain ⟨kv, e1, e2⟩ := kat i hi
          obtain ⟨g1, g2⟩ := (hJ i H8 (s8 _ _ fz)).1 kv e1
          refine ⟨g1, fun x H9 hy => ?_⟩
          obtain ⟨rfl, y2⟩ := g2 x H9 hy
          exact ⟨Same.refl _, by rw [y2, e2]; rfl⟩
        · obtain ⟨o1, rfl⟩ := hσ
          subst im
          have zin : kz.getD i 0 ∈ kz := by
            rw [List.getD_eq_getElem?_getD, List.getElem?_eq_getElem hi]
            exact List.getElem_mem hi
          obtain ⟨n, en⟩ := k3 _ zin
          have cn := (km n).mp (en ▸ zin)
          have vn := dk.val n
          rw [if_neg (by omega)] at vn
          rw [en] at hR ⊢
          refine ⟨_, rfl, _, rfl, _, rfl, c, .int ((L.count n : Nat) : Int), rfl, .inl ⟨kvs, Sum.inl (n : Int), .inr ⟨_, s8 _ _ fz⟩, rfl, vn.symm⟩, (by show 2 ≤ sizeLine; decide), fun p hp => hR _ _ _ ⟨_, rfl⟩ (same_new hp _) upd_same⟩
        · have pr : Prs H8 zs (kz.map fun z => (z, ((L.count z.toNat : Nat) : Int))) := by
            refine ⟨by rw [List.length_map]; exact hl8, fun j b e => ?_⟩
            rw [List.getElem?_map] at e
            have jl : j < kz.length := by
              cases ej : kz[j]? with
              | none => rw [ej] at e; cases e
              | some z => exact (List.getElem?_eq_some_iff.mp ej).1
            rw [List.getElem?_eq_getElem jl] at e
            cases e
            obtain ⟨p, x1, x2⟩ := hzs j _ (List.getElem?_eq_getElem (by omega : j < zs.length))
            refine ⟨p, by rw [List.getElem?_eq_getElem (by omega : j < zs.length), x1], ?_⟩
            rw [x2, List.getD_eq_getElem?_getD, List.getElem?_eq_getElem jl]
            rfl
          refine ⟨D2, zs, _, rfl, hD8, pr, ?_, by rw [List.length_map]; exact kl, fun bl' zs' l' pm pw pr' hl' => ?_⟩
          · rw [List.map_map]
            exact (List.map_id kz).symm ▸ k2
          · obtain ⟨S, Su, Sm, rfl⟩ := BB.told_sorted (R := BB.rofL N k) pm pw k3 km (fun s => by have := eq s; rw [List.map_nil, List.count_nil, Nat.add_zero] at this; exact this) (BB.rofL_ne N9 kh) LR
            have s9 := same_new hl' (.lst zs')
            refine q l' _ S ((S7.trans s8).trans s9) Su Sm ⟨zs', upd_same, ?_, fun j y e => ?_⟩
            · rw [List.length_map]
              have := pr'.1
              rwa [List.length_map] at this
            · have jl : j < S.length := by
                have h1 := (List.getElem?_eq_some_iff.mp e).1
                have h2 := pr'.1
                rw [List.length_map] at h2
                omega
              obtain ⟨p, e1, e2⟩ := pr'.2 j _ (by rw [List.getElem?_map, List.getElem?_eq_getElem jl]; rfl)
              rw [e] at e1
              refine ⟨p, Option.some.inj e1, ?_⟩
              rw [s9 _ _ e2, List.getD_eq_getElem?_getD, List.getElem?_map, List.getElem?_eq_getElem jl]
              rfl
      | cons b F' =>
        have lx : xs.length = F'.length + 1 := by
          have := congrArg List.length fr.ks
          rwa [List.length_map, List.length_map] at this
        obtain ⟨x0, xr, rfl⟩ : ∃ x0 xr, xs = x0 :: xr := by
          cases xs with
          | nil => cases lx
          | cons x0 xr => exact ⟨x0, xr, rfl⟩
        have x0k : x0.1 = ((N : Int), b) := by
          have := fr.ks
          rw [List.map_cons, List.map_cons] at this
          exact (List.cons.inj this).1
        have hb : b ∈ b :: F' := List.mem_cons_self
        have R := BB.rof_is (cl.ro b hb)
        refine iteT ⟨fun σ' H' => ∃ m', m' < (b :: F').length ∧ Wo P w H l d c o3 N k m' σ' H', fun _ _ h => h, ?_⟩
        refine ⟨_, rfl, d, _, rfl, fr.rg, fun l2 hl2 => ?_⟩
        have r0 := fr.rg.keys x0 List.mem_cons_self
        rw [x0k] at r0
        have s7 := same_new hl2 (.lst ((x0 :: xr).map fun x => V.ref x.2.1))
        have h7 : (upd H6 l2 (.lst ((x0 :: xr).map fun x => V.ref x.2.1))) l2 = some (.lst ((x0 :: xr).map fun x => V.ref x.2.1)) := upd_same
        have fr := fr.same s7
        have r0 := r0.same s7
        generalize upd H6 l2 (.lst ((x0 :: xr).map fun x => V.ref x.2.1)) = H7 at s7 h7 fr r0 ⊢
        refine ⟨l2, _, 0, .ref x0.2.1, rfl, rfl, SqL.of h7, (show atI ((x0 :: xr).map fun x => V.ref x.2.1) ((0 : Nat) : Int) = some (V.ref x0.2.1) from atI_nat rfl), ?_⟩
        refine (show tWhile (tTest (tOp (rInRg P w) (tVar 6) (tVar 4))) (tSeq (tDrop (tRPop P w (tVar 4) (tVar 6))) (tSeq (tAsg (tCall spStp [] E0 (tCons (tVar 6) (tCons (tC (V.int 1)) tNil))) (gName 6)) (tAsg (tOp (rI0 fun i j => V.int (i + j)) (tVar 7) (tC (V.int 1))) (gName 7)))) _ [some (V.int (N : Int)), some (V.int (k : Int)), some (V.ref l), o3, some (V.ref d), some (V.ref c), some (V.ref x0.2.1), some (V.int ((0 : Nat) : Int))] H7 from ?_)
        refine ⟨Wi P w H l d c o3 N k (b :: F') b kvs, ⟨_, 0, x0 :: xr, x0.2.1, rfl, by rw [BB.lft_zero]; exact fr, r0, Nat.zero_le _, rfl⟩, fun m σ H8 hp => ?_⟩
        clear s7 h7 fr r0
        obtain ⟨j, xs, p, rfl, fr, rp, jl, rfl⟩ := hp
        have wb := wy b hb
        have wj := wy _ (cl.it hb j)
        refine ⟨_, rfl, _, rfl, p, d, (N : Int), BB.itR (N : Int) j b, xs, rfl, rfl, rp, fr.rg, _, rfl, ?_⟩
        have mem : decide (((N : Int), BB.itR (N : Int) j b) ∈ xs.map (·.1)) = decide (j < BB.rof (N : Int) b) := decide_eq_decide.mpr ((fr.mem _).trans (BB.lft_in cl hb jl))
        rw [mem]
        by_cases jm : j < BB.rof (N : Int) b
        · rw [decide_eq_true jm]
          refine iteT ⟨fun σ' H' => ∃ m', m' < BB.rof (N : Int) b - j ∧ Wi P w H l d c o3 N k (b :: F') b kvs m' σ' H', fun _ _ h => h, ?_⟩
          obtain ⟨i, p', hi⟩ := fr.there ((BB.lft_in cl hb jl).mpr jm)
          refine ⟨_, rfl, d, xs, rfl, fr.rg, _, rfl, p, (N : Int), _, xs, i, p', rfl, rp, fr.rg, hi, ?_⟩
          have fr2 := fr.pop hi
          have rp2 := rp.upd fr.rg.at_ (o := .ext (rawRg P w d (xs.eraseIdx i)))
          rw [← BB.lft_succ] at fr2
          generalize upd H8 d (.ext (rawRg P w d (xs.eraseIdx i))) = H9 at fr2 rp2 ⊢
          refine ⟨_, rfl, p, (N : Int), 1, _, rfl, .inl rfl, rp2, wj.ring (by omega), by omega, fun r H10 s10 rr => ?_⟩
          refine ⟨_, rfl, _, _, rfl, rfl, ?_⟩
          exact ⟨BB.rof (N : Int) b - (j + 1), by omega, j + 1, xs.eraseIdx i, r, rfl, fr2.same s10, rr, by omega, rfl⟩
        · have je : j = BB.rof (N : Int) b := by omega
          rw [decide_eq_false jm]
          refine iteF ?_
          subst je
          have dl := dk.len
          have hk := fr.hc
          refine ⟨_, rfl, c, rfl, .inl ⟨kvs, .inl hk⟩, _, rfl, _, DGet.k (k := Sum.inl ((BB.rof (N : Int) b : Nat) : Int)) hk, _, _, dk.get (BB.rof (N : Int) b), rfl, ?_⟩
          refine ⟨_, rfl, _, rfl, c, _, rfl, DPut.k (k := Sum.inl ((BB.rof (N : Int) b : Nat) : Int)) hk (by rw [sizeLine_eq]; omega), ?_⟩
          have ln := BB.lft_len cl hb
          have inL : BB.rof (N : Int) b ∈ BB.rofL N k := List.mem_map_of_mem (BB.mem_ways.mpr wb)
          refine ⟨(BB.lft (N : Int) (b :: F') b (BB.rof (N : Int) b)).length, by omega, _, xs, _, L ++ [BB.rof (N : Int) b], _, _, rfl, fr.put, BB.lft_cl cl hb, fun z hz => wy z (BB.mem_lft.mp hz).1, dk.put _, BB.cnt_next cl hb eq, fun s hs => ?_, ?_, rfl⟩
          · rcases List.mem_append.mp hs with z | z
            · exact LR s z
            · rw [List.mem_singleton.mp z]
              exact inL
          · rw [List.length_append, List.length_singleton]
            omega
end
end K64
end
section
namespace K64
open PySem PySem.Spec PyProof.Rows L2
set_option maxHeartbeats 4000000
set_option maxRecDepth 100000
set_option Elab.async false
set_option linter.unusedVariables false
theorem hu11 {k : Nat} {A : Around} (r : Room k A) : A.units + 1 + 1 < cLine := by have := r.un; omega
theorem same_keep {H H' : Hp} {r : Addr} {o : HO} (hr : H r = none) (k : Keep r (upd H r o) H') : Same H H' := fun c u h => k c u (ne_of_none h hr) (same_new hr o c u h)
theorem Keep.of {a : Addr} {H H' : Hp} (s : Same H H') : Keep a H H' := fun c o _ h => s c o h
/-- all but the table -/
def lessT (H : Hp) (T : Addr) : Hp := fun b => if b = T then none else H b
theorem lessT_ne {H : Hp} {T b : Addr} (n : b ≠ T) : lessT H T b = H b := if_neg n
theorem lessT_some {H : Hp} {T b : Addr} {u : HO} (e : lessT H T b = some u) : b ≠ T ∧ H b = some u := by
  by_cases z : b = T
  · rw [z] at e; unfold lessT at e; rw [if_pos rfl] at e; cases e
  · exact ⟨z, (lessT_ne z).symm.trans e⟩
theorem seq_lessT {K : PySem.W.Frag} {H : Hp} {T a : Addr} {xs : List V} {ps : Array Value} (hT : H T = some (.tbl ps)) (h : SqL K H a xs) : SqL K (lessT H T) a xs := by
  rcases h with (h | ⟨o, h⟩) | h
  · exact .inl (.inl ((lessT_ne (fun z => by rw [z, hT] at h; cases h)).trans h))
  · exact .inl (.inr ⟨o, (lessT_ne (fun z => by rw [z, hT] at h; cases h)).trans h⟩)
  · exact .inr h
theorem tab_keep {q : Str} {H H' : Hp} {T r : Addr} {xs : List V} (t : Tab q H T) (hr : H r = some (.lst xs)) (k : Keep r H H') : Tab q H' T := by
  obtain ⟨l, e, h⟩ := t
  refine ⟨l, k _ _ (fun z => by rw [z, hr] at e; cases e) e, fun x hx => ?_⟩
  obtain ⟨oc, vs, t, a, b⟩ := h x hx
  exact ⟨oc, vs, t, k _ _ (fun z => by rw [z, hr] at a; cases a) a, b⟩
abbrev LQ : Str := (("law" : Str) ++ ".<locals>.") ++ "<lambda>"
def spLaw (K : PySem.W.Frag) (T : Addr) : Sp := fun vs H Q _ => ∃ (a : Addr) (ns : List Int), vs = [.ref a] ∧ SqL K H a (ns.map V.int) ∧ ns.length ≤ 63 ∧ H T = some (.tbl #[]) ∧ ∀ H', Q (.bl true) H'
theorem flat_sm {H : Hp} {n : Nat} {i : Int} : Sm H n (.int i) (.int i) := by
  cases n with
  | zero => exact ⟨rfl, .inl ⟨i, rfl⟩⟩
  | succ n => exact .inl ⟨rfl, .inl ⟨i, rfl⟩⟩
/-- the j-th of two lists that hold the same rows -/
theorem tl_two {H : Hp} {a b : Addr} {bl : List (List Int)} (h1 : TL H a (bl.map (·.map V.int))) (h2 : TL H b (bl.map (·.map V.int))) : ∃ xs ys, H a = some (.lst xs) ∧ H b = some (.lst ys) ∧ xs.length = bl.length ∧ ys.length = bl.length ∧
    ∀ (j : Nat) (u v : V), xs[j]? = some u → ys[j]? = some v → ∃ (p p' : Addr) (r : List Int), r ∈ bl ∧ u = .ref p ∧ v = .ref p' ∧ H p = some (.tup (r.map V.int)) ∧ H p' = some (.tup (r.map V.int)) := by
  obtain ⟨xs, x1, x2, x3⟩ := h1
  obtain ⟨ys, y1, y2, y3⟩ := h2
  rw [List.length_map] at x2 y2
  refine ⟨xs, ys, x1, y1, x2, y2, fun j u v e1 e2 => ?_⟩
  have jl : j < bl.length := by rw [← x2]; exact (List.getElem?_eq_some_iff.mp e1).1
  obtain ⟨p, z1, z2⟩ := x3 j u e1
  obtain ⟨p', w1, w2⟩ := y3 j v e2
  have eg : (bl.map (·.map V.int)).getD j [] = bl[j].map V.int := by
    rw [List.getD_eq_getElem?_getD, List.getElem?_map, List.getElem?_eq_getElem jl]
    rfl
  rw [eg] at z2 w2
  exact ⟨p, p', bl[j], List.getElem_mem _, z1, w1, z2, w2⟩
theorem tl_de {H : Hp} {a b : Addr} {bl : List (List Int)} (h1 : TL H a (bl.map (·.map V.int))) (h2 : TL H b (bl.map (·.map V.int))) : ∃ xs ys, H a = some (.lst xs) ∧ H b = some (.lst ys) ∧ xs.length = ys.length ∧ ∀ (j : Nat) (u v : V), xs[j]? = some u → ys[j]? = some v → De H 1 u v := by
  obtain ⟨xs, ys, e1, e2, e3, e4, e5⟩ := tl_two h1 h2
  refine ⟨xs, ys, e1, e2, by omega, fun j u v f1 f2 => ?_⟩
  obtain ⟨p, p', r, _, rfl, rfl, g1, g2⟩ := e5 j u v f1 f2
  refine .inr ⟨p, p', _, _, rfl, rfl, g1, g2, rfl, fun i u v h1 h2 => ?_⟩
  rw [h1] at h2
  cases h2
  obtain ⟨z, _, rfl⟩ := List.mem_map.mp (List.mem_of_getElem? h1)
  exact ⟨z, rfl, rfl⟩
theorem tl_sm {H : Hp} {a b : Addr} {bl : List (List Int)} (h1 : TL H a (bl.map (·.map V.int))) (h2 : TL H b (bl.map (·.map V.int))) (lb : bl.length ≤ 1000) (lr : ∀ r ∈ bl, r.length ≤ 1000) : Sm H 2 (.ref a) (.ref b) := by
  obtain ⟨xs, ys, e1, e2, e3, e4, e5⟩ := tl_two h1 h2
  refine .inr ⟨a, b, xs, ys, rfl, rfl, .inr ⟨e1, e2⟩, by omega, by omega, fun j u v f1 f2 => ?_⟩
  obtain ⟨p, p', r, hr, rfl, rfl, g1, g2⟩ := e5 j u v f1 f2
  refine .inr ⟨p, p', _, _, rfl, rfl, .inl ⟨g1, g2⟩, rfl, by rw [List.length_map]; exact lr r hr, fun i u v h1 h2 => ?_⟩
  rw [h1] at h2
  cases h2
  obtain ⟨z, _, rfl⟩ := List.mem_map.mp (List.mem_of_getElem? h1)
  exact flat_sm
theorem tl_one {H : Hp} {l p : Addr} {r : List Int} (hl : H l = some (.lst [.ref p])) (hp : H p = some (.tup (r.map V.int))) : TL H l ([r].map (·.map V.int)) := ⟨_, hl, rfl, fun j y e => by
  match j, e with
  | 0, e => cases e; exact ⟨p, rfl, hp⟩⟩
theorem num_no {lo hi i : Int} (h : ¬ (lo ≤ i ∧ i ≤ hi)) : numB lo hi (.int i) = false := by
  show (decide (lo ≤ i) && decide (i ≤ hi)) = false
  by_cases c : lo ≤ i
  · rw [decide_eq_false (show ¬ i ≤ hi from fun z => h ⟨c, z⟩), Bool.and_false]
  · rw [decide_eq_false c, Bool.false_and]
theorem right_rd {σ : L2.St} {H : Hp} {Q : VK} {u v : V} {T T' : String} (h9 : σ[9]? = some (some u)) (h10 : σ[10]? = some (some v)) (ku : Kn H u T) (kv : Kn H v T') (q1 : Q (.bl true) H) (q2 : Wrong u v → Q (.bl false) H) :
    (tAndV (tCall spWh [] E0 (tCons (tVar 9) tNil)) (tAndV (tChain (rI0 fun i j => V.bl (decide (i ≤ j))) (rI0 fun i j => V.bl (decide (i ≤ j))) (tC (V.int 1)) (tVar 9) (tC (V.int 10)))
      (tAndV (tCall spWh [] E0 (tCons (tVar 10) tNil)) (tChain (rI0 fun i j => V.bl (decide (i ≤ j))) (rI0 fun i j => V.bl (decide (i < j))) (tC (V.int 0)) (tOp (rI CMul fun i j => V.int (i * j)) (tC (V.int 2)) (tVar 10)) (tVar 9))))) σ H Q := by
  have ww : ∀ {x : V} {T : String}, Kn H x T → (wholeB x = true ∧ ∃ i, x = .int i) ∨ (wholeB x = false ∧ ∀ lo hi, numB lo hi x = false) := fun {x T} k => by
    cases x with
    | int i => exact .inl ⟨rfl, i, rfl⟩
    | _ => exact .inr ⟨rfl, fun _ _ => rfl⟩
  refine ⟨_, h9, u, T, rfl, ku, _, rfl, ?_⟩
  rcases ww ku with ⟨e1, i, rfl⟩ | ⟨e1, e2⟩
  · rw [e1]
    refine iteT ⟨_, h9, 1, i, rfl, rfl, _, rfl, ?_⟩
    by_cases c1 : 1 ≤ i
    · rw [decide_eq_true c1]
      refine iteT ⟨i, 10, rfl, rfl, _, rfl, ?_⟩
      by_cases c2 : i ≤ 10
      · rw [decide_eq_true c2]
        refine iteT ⟨_, h10, v, T', rfl, kv, _, rfl, ?_⟩
        obtain ⟨N, rfl⟩ := Int.eq_ofNat_of_zero_le (show 0 ≤ i by omega)
        rcases ww kv with ⟨e3, j, rfl⟩ | ⟨e3, e4⟩
        · rw [e3]
          refine iteT ⟨_, h10, 2, j, rfl, rfl, .inl ⟨by decide, by decide⟩, 0, 2 * j, rfl, rfl, _, rfl, ?_⟩
          by_cases c3 : 0 ≤ 2 * j
          · rw [decide_eq_true c3]
            refine iteT ⟨_, h9, 2 * j, (N : Int), rfl, rfl, ?_⟩
            show Q (.bl (decide (2 * j < (N : Int)))) H
            by_cases c4 : 2 * j < (N : Int)
            · rw [decide_eq_true c4]; exact q1
            · rw [decide_eq_false c4]
              exact q2 (.inr ⟨N, by omega, by omega, rfl, num_no fun z => c4 (by have := z.2; omega)⟩)
          · rw [decide_eq_false c3]
            exact iteF (q2 (.inr ⟨N, by omega, by omega, rfl, num_no fun z => c3 (by have := z.1; omega)⟩))
        · rw [e3]
          exact iteF (q2 (.inr ⟨N, by omega, by omega, rfl, e4 _ _⟩))
      · rw [decide_eq_false c2]
        exact iteF (q2 (.inl (num_no fun z => c2 z.2)))
    · rw [decide_eq_false c1]
      exact iteF ⟨_, rfl, iteF (q2 (.inl (num_no fun z => c1 z.1)))⟩
  · rw [e1]
    exact iteF (q2 (.inl (e2 _ _)))
theorem lessT_in {H : Hp} {T b : Addr} {o : HO} (n : b ≠ T) (e : H b = some o) : lessT H T b = some o := by
  unfold lessT
  rw [if_neg n]
  exact e
/-- what rounds tells -/
def prL (N k : Nat) (S : List Nat) : List (List Int) := S.map fun (s : Nat) => [(s : Int), (((BB.rofL N k).count s / s : Nat) : Int)]
theorem prL_tl {N k : Nat} {S : List Nat} {H : Hp} {l : Addr} (h : TL H l (S.map fun (s : Nat) => [.int (s : Int), .int (((BB.rofL N k).count s / s : Nat) : Int)])) : TL H l ((prL N k S).map (·.map V.int)) := by
  unfold prL
  rw [List.map_map]
  exact h
theorem prL_few {N k : Nat} {S : List Nat} (up : S.Pairwise (· < ·)) (mem : ∀ s, s ∈ S ↔ s ∈ BB.rofL N k) : S.length ≤ 52 := by
  have := BB.many_in S (List.range 52) (up.imp fun h => by omega) fun s hs => List.mem_range.mpr (by have := BB.rofL_le ((mem s).mp hs); omega)
  rwa [List.length_range] at this
theorem rof10 : BB.rofL 1 0 = [1] := by decide +kernel
theorem rof31 : BB.rofL 3 1 = [3, 3, 3] := by decide +kernel
theorem prL10 {S : List Nat} (up : S.Pairwise (· < ·)) (mem : ∀ s, s ∈ S ↔ s ∈ BB.rofL 1 0) : prL 1 0 S = [[1, 1]] := by
  have e : S = [1] := BB.up_one up (List.pairwise_singleton ..) fun s => by rw [mem s, rof10]
  subst e
  unfold prL
  rw [rof10]
  rfl
theorem prL31 {S : List Nat} (up : S.Pairwise (· < ·)) (mem : ∀ s, s ∈ S ↔ s ∈ BB.rofL 3 1) : prL 3 1 S = [[3, 1]] := by
  have e : S = [3] := BB.up_one up (List.pairwise_singleton ..) fun s => by rw [mem s, rof31]; simp
  subst e
  unfold prL
  rw [rof31]
  rfl
section
variable {P : Program} {w : World} {K : PySem.W.Frag} {mg : Str → Option Value} {base : Heap} {b c0 c1 c2 c3 c4 c T : Addr} {bm0 : List Value}
set_option maxRecDepth 100000 in
theorem ok_law {f : Addr} {fd : FuncData} (F : Fun K "law" "law" s_law f fd) (nb : Nb4 mg) (h_L_state : Has P w K mg base 2 "_law_state" ["_law_script", "_law_k"] (spState K)) (h_L_take : Has P w K mg base 1 "_law_take" ["_law_state_here", "_law_many"] (spTake K)) (h_L_due : Has P w K mg base 4 "_law_due" ["_law_many", "_law_few"] spDue) (h_L_same : Has P w K mg base 3 "_law_same" ["_law_found", "_law_due_here"] (spSame 3)) (h_rounds : Has P w K mg base 4 "rounds" ["many", "balls"] spRnds) (h_L_whole : Has P w K mg base 1 "_law_whole" ["_law_thing"] spWh)  (h_ref : HasR P w K mg 6 5 "_law_refused" "_law_call" Rn (Ec K b c0 c1 c2 c3 c4)) (hE_rounds : ∀ base, HasE P w K mg base 3 "rounds" ["many", "balls"] (spRndE c0))
    (hcd : fd.code = .ref c) (C : PySem.W.CodeHd base c T) (Bl : BltAt mg base) (e0 : ExcF K c0 bm0) (hin : (Value.ref c0 :: bm0).contains (.ref b) = true) (kd : Kind5 K c0 c1 c2 c3 c4 c0 0) :
    FnOk P w K mg base CX0 7 f fd ["_law_script"] (spLaw K T) := by
  have nd := sc_law.nd
  refine F.okC (k := 6) sc_law (fun vs H Q E h => ?_) (fun A outer s H vs Q E hr h => ?_)
  · obtain ⟨a, ns, rfl, _⟩ := h
    rfl
  obtain ⟨a, ns, rfl, hS, h63, hT, q⟩ := h
  refine ⟨_, (@pss_cons _ _ _ _ _ (ps_if (PW.pt (pw_or (pt_cmpR (op_neD (n := 1) (hu11 hr)) (pe_def h_rounds hr (pa_cons pe_int (pa_cons pe_int pa_nil))) (pe_lst (pa_cons (pe_tup (pa_cons pe_int (pa_cons pe_int pa_nil))) pa_nil)) (nomark _)) (pw_or1 (pt_cmpR (op_neD (n := 1) (hu11 hr)) (pe_def h_rounds hr (pa_cons pe_int (pa_cons pe_int pa_nil))) (pe_lst (pa_cons (pe_tup (pa_cons pe_int (pa_cons pe_int pa_nil))) pa_nil)) (nomark _)))))
(pss_one (ps_ret pe_bl))
pss_nil) (@pss_cons _ _ _ _ _ (ps_for PassesOwn.never rfl (pi_range1 rfl nb.range (pa_cons (pe_callB (call_max2 rfl) rfl nb.max boot_max (pa_cons pe_int (pa_cons (pe_callB (call_min2 rfl) rfl nb.min boot_min (pa_cons (pe_callB call_len_seq rfl nb.len PySem.boot_len (pa_cons (pv 0) pa_nil)) (pa_cons pe_int pa_nil))) pa_nil))) pa_nil)) (pg_name (i := 1) nd rfl (Or.inl rfl))
(pss_cons (ps_set (i := 2) nd rfl (Or.inl rfl) (pe_def h_L_state hr (pa_cons (pv 0) (pa_cons (pv 1) pa_nil))))
(pss_cons (ps_set (i := 3) nd rfl (Or.inl rfl) (pe_op op_add pe_int (pe_def h_L_take hr (pa_cons (pv 2) (pa_cons pe_int pa_nil)))))
(pss_cons (ps_set (i := 4) nd rfl (Or.inl rfl) (pe_def h_L_take hr (pa_cons (pv 2) (pa_cons (pe_op op_fdiv (pe_op op_add (pv 3) pe_int) pe_int) pa_nil))))
(pss_cons (ps_set (i := 5) nd rfl (Or.inl rfl) (pe_def h_L_due hr (pa_cons (pv 3) (pa_cons (pv 4) pa_nil))))
(pss_one (ps_for PassesOwn.never rfl (pi_range1 rfl nb.range (pa_cons pe_int pa_nil)) (pg_name (i := 6) nd rfl (Or.inl rfl))
(pss_cons (ps_set (i := 7) nd rfl (Or.inl rfl) (pe_def h_rounds hr (pa_cons (pv 3) (pa_cons (pv 4) pa_nil))))
(pss_cons (ps_if (pt_not (pt_truth (pe_def h_L_same hr (pa_cons (pv 7) (pa_cons (pv 5) pa_nil))) (fun _ => rfl)))
(pss_one (ps_ret pe_bl))
pss_nil)
(pss_one (ps_expr (pe_bm PySem.F.plainAttrs_list PySem.F.slot_list_append PySem.F.type_list_append mt_append (pv 7) (pa_cons (pe_tup pa_nil) pa_nil))))))))))))) (@pss_cons _ _ _ _ _ (@ps_for _ _ _ _ _ _ _ _ PassesOwn.never rfl (pi_range1 rfl nb.range (pa_cons (pe_callB (call_max2 rfl) rfl nb.max boot_max (pa_cons pe_int (pa_cons (pe_callB (call_min2 rfl) rfl nb.min boot_min (pa_cons (pe_callB call_len_seq rfl nb.len PySem.boot_len (pa_cons (pv 0) pa_nil)) (pa_cons pe_int pa_nil))) pa_nil))) pa_nil)) (pg_name (i := 1) nd rfl (Or.inl rfl)) (@pss_cons _ _ _ _ _ (ps_set (i := 2) nd rfl (Or.inl rfl) (pe_def h_L_state hr (pa_cons (pv 0) (pa_cons (pv 1) pa_nil)))) (@pss_cons _ _ _ _ _ (ps_set (i := 3) nd rfl (Or.inl rfl) (pe_op op_add pe_int (pe_def h_L_take hr (pa_cons (pv 2) (pa_cons pe_int pa_nil))))) (@pss_cons _ _ _ _ _ (@ps_set _ _ (8) _ _ _ _ nd rfl (Or.inl rfl) (@pe_ix _ _ _ _ _ _ _ ix_list (@pe_lst _ _ _ _ (@pa_cons _ _ _ _ _ pe_int (@pa_cons _ _ _ _ _ pe_int (@pa_cons _ _ _ _ _ (pe_un un_neg pe_int) (@pa_cons _ _ _ _ _ pe_bl (@pa_cons _ _ _ _ _ pe_bl (@pa_cons _ _ _ _ _ pe_non (@pa_cons _ _ _ _ _ pe_str (pa_cons (pe_tup (pa_cons pe_int pa_nil)) (pa_cons (pe_op op_pow pe_int pe_int) (pa_cons (pv 3) (pa_cons (pe_op op_fdiv (pe_op op_add (pv 3) pe_int) pe_int) (pa_cons pe_int pa_nil))))) rfl) rfl) rfl) rfl) rfl) rfl) rfl)) (pe_def h_L_take hr (pa_cons (pv 2) (pa_cons pe_int pa_nil))) (fun _ _ => rfl)) rfl (by first | exact .inl rfl | exact .inr rfl)) (pss_one (ps_for PassesOwn.never rfl (pi_list (pe_lst (pa_cons (pe_tup (pa_cons (pv 8) (pa_cons pe_int pa_nil))) (pa_cons (pe_tup (pa_cons (pv 3) (pa_cons (pv 8) pa_nil))) (pa_cons (pe_tup (pa_cons (pv 8) (pa_cons (pv 8) pa_nil))) (pa_cons (pe_tup (pa_cons (pv 8) (pa_cons pe_non pa_nil))) pa_nil)))))) (pg_tup rfl (pgs_cons (pg_name (i := 9) nd rfl (Or.inr rfl)) (pgs_cons (pg_name (i := 10) nd rfl (Or.inr rfl)) pgs_nil)))
(pss_cons (ps_set (i := 11) nd rfl (Or.inl rfl) (pe_and (pe_def h_L_whole hr (pa_cons (pv 9) pa_nil)) (pe_and (pe_chain op_le op_le pe_int (pv 9) pe_int) (pe_and (pe_def h_L_whole hr (pa_cons (pv 10) pa_nil)) (pe_one (pe_chain op_le op_lt pe_int (pe_op op_mul pe_int (pv 10)) (pv 9)))))))
(pss_one (ps_if (PW.pt (pw_and (pt_not (pt_truth (pv 11) (fun _ => rfl))) (pw_and1 (pt_cmpR op_ne (pe_lambda (sc := defScope s_law) (N0 := ["_law_script", "_law_k", "_law_state_here", "_law_many", "_law_few", "_law_due_here", "_law_turn", "_law_found", "_law_odd", "_law_one", "_law_other", "_law_right"]) (N := ["_law_one", "_law_other"]) (js := [9, 10]) h_ref hr hcd C Bl rfl rfl (by exact ⟨rfl, rfl, rfl, by decide +kernel⟩) (by exact ⟨rfl, by decide +kernel, by decide +kernel, by decide +kernel, rfl, rfl, by decide, by decide +kernel, by decide +kernel⟩) (fun base E cl f cd A outer s H hr => by exact (pe_defE (hE_rounds base) lvs_lam hr (pa_cons (pv 0) (pa_cons (pv 1) pa_nil))))) pe_str (nomark _)))))
(pss_one (ps_ret pe_bl))
pss_nil)))))))) (by intro _; rfl)) (pss_one (ps_ret pe_bl))))), ?_⟩
  refine ⟨1, 0, rfl, by omega, by omega, by omega, fun r1 H1 S1 s1 _ u1 m1 t1 => ?_⟩
  refine ⟨(by show 2 ≤ sizeLine; decide), fun q1 hq1 => ⟨(by show 1 ≤ sizeLine; decide), fun l1 hl1 => ?_⟩⟩
  have a1 := same_new hq1 (.tup [.int 1, .int 1])
  have f1 : (upd H1 q1 (.tup [.int 1, .int 1])) q1 = some (.tup (([1, 1] : List Int).map V.int)) := upd_same
  generalize upd H1 q1 (.tup [.int 1, .int 1]) = A1 at a1 f1 hl1 ⊢
  have a2 := same_new hl1 (.lst [.ref q1])
  have f2 : (upd A1 l1 (.lst [.ref q1])) l1 = some (.lst [.ref q1]) := upd_same
  generalize upd A1 l1 (.lst [.ref q1]) = A2 at a2 f2 ⊢
  have S2 := a1.trans a2
  have t1 := prL_tl t1
  rw [prL10 u1 m1] at t1
  obtain ⟨xs1, ys1, x1, y1, z1, d1⟩ := tl_de (t1.same S2) (tl_one f2 (a2 _ _ f1))
  refine ⟨r1, l1, xs1, ys1, rfl, rfl, SqL.of x1, SqL.of y1, z1, d1, _, rfl, iteF ?_⟩
  have T2 := s1.trans S2
  refine ⟨3, 1, rfl, by omega, by omega, by omega, fun r2 H2 S3 s2 _ u2 m2 t2 => ?_⟩
  refine ⟨(by show 2 ≤ sizeLine; decide), fun q4 hq4 => ⟨(by show 1 ≤ sizeLine; decide), fun l3 hl3 => ?_⟩⟩
  have k1 := same_new hq4 (.tup [.int 3, .int 1])
  have j1 : (upd H2 q4 (.tup [.int 3, .int 1])) q4 = some (.tup (([3, 1] : List Int).map V.int)) := upd_same
  generalize upd H2 q4 (.tup [.int 3, .int 1]) = C1 at k1 j1 hl3 ⊢
  have k2 := same_new hl3 (.lst [.ref q4])
  have j2 : (upd C1 l3 (.lst [.ref q4])) l3 = some (.lst [.ref q4]) := upd_same
  generalize upd C1 l3 (.lst [.ref q4]) = C2 at k2 j2 ⊢
  have S4 := k1.trans k2
  have t2 := prL_tl t2
  rw [prL31 u2 m2] at t2
  obtain ⟨xs3, ys3, x3, y3, z3, d3⟩ := tl_de (t2.same S4) (tl_one j2 (k2 _ _ j1))
  refine ⟨r2, l3, xs3, ys3, rfl, rfl, SqL.of x3, SqL.of y3, z3, d3, _, rfl, iteF ?_⟩
  have T4 := T2.trans (s2.trans S4)
  clear d1 d3 t1 t2
  refine ⟨_, rfl, a, _, rfl, .inl (T4.seq hS), _, _, rfl, _, _, rfl, _, rfl, ?_, ?_, ?_⟩
  · split <;> split <;> omega
  · split <;> split <;> omega
  refine for_range (fun i σ H' => Same H H' ∧ ∃ o1 o2 o3 o4 o5 o6 o7 o8 o9 o10 o11, σ = [some (.ref a), o1, o2, o3, o4, o5, o6, o7, o8, o9, o10, o11]) ⟨T4, _, _, _, _, _, _, _, _, _, _, _, rfl⟩ (fun i σ H0 hi hp => ?_) (fun σ H0 hp => ?_)
  · obtain ⟨sm, o1, o2, o3, o4, o5, o6, o7, o8, o9, o10, o11, rfl⟩ := hp
    refine ⟨_, rfl, _, rfl, a, ns, _, rfl, sm.seq hS, by omega, fun r x bb hr0 d => ?_⟩
    have st1 : StAt (upd H0 r (.lst [.int x, .bl bb])) r x bb := StAt.upd d
    generalize hG : upd H0 r (.lst [.int x, .bl bb]) = G at st1 ⊢
    have fin : ∀ H', Keep r G H' → Same H H' := fun H' k => sm.trans (same_keep hr0 (by rw [hG]; exact k))
    refine ⟨_, rfl, r, x, bb, 10, rfl, st1, by decide, by decide, fun v1 x1 v10 v11 d1 => ⟨_, _, rfl, rfl, ?_⟩⟩
    have k1 := keep_upd r G (.lst [.int x1, .bl bb])
    have st2 : StAt (upd G r (.lst [.int x1, .bl bb])) r x1 bb := StAt.upd d1
    generalize upd G r (.lst [.int x1, .bl bb]) = G1 at k1 st2 ⊢
    obtain ⟨v1, rfl⟩ := Int.eq_ofNat_of_zero_le v10
    obtain ⟨N, eN⟩ : ∃ N : Nat, N = 1 + v1 := ⟨_, rfl⟩
    have eN' : (1 : Int) + (v1 : Int) = (N : Int) := by omega
    dsimp only
    rw [eN']
    refine ⟨_, rfl, _, rfl, _, _, rfl, rfl, _, _, rfl, rfl, ⟨by decide, by decide⟩, r, x1, bb, _, rfl, st2, by omega, by omega, fun v2 x2 v20 v21 d2 => ?_⟩
    have k2 := k1.trans (keep_upd r G1 (.lst [.int x2, .bl bb]))
    generalize upd G1 r (.lst [.int x2, .bl bb]) = G2 at k2 ⊢
    obtain ⟨k, rfl⟩ := Int.eq_ofNat_of_zero_le v20
    have N1 : 1 ≤ N := by omega
    have N9 : N ≤ 10 := by omega
    have kh : k < (N + 1) / 2 := by omega
    refine ⟨_, rfl, _, rfl, N, k, rfl, N1, N9, kh, fun rd H4 Sd s4 ud md td => ?_⟩
    refine ⟨_, rfl, by decide, by decide, ?_⟩
    refine for_range (fun j σ H' => Same H4 H' ∧ ∃ o6 o7, σ = [some (.ref a), some (.int (0 + (i : Int))), some (.ref r), some (.int (N : Int)), some (.int (k : Int)), some (.ref rd), o6, o7, o8, o9, o10, o11]) ⟨Same.refl _, _, _, rfl⟩ (fun j σ H5 hj hp => ?_) (fun σ H5 hp => ?_)
    · obtain ⟨s5, o6, o7, rfl⟩ := hp
      refine ⟨_, rfl, _, rfl, N, k, rfl, N1, N9, kh, fun rf H6 Sf s6 hn uf mf tf => ?_⟩
      have s56 := s5.trans s6
      have eS : Sf = Sd := BB.up_one uf ud fun s => by rw [mf s, md s]
      subst eS
      have few := prL_few uf mf
      have tf := prL_tl tf
      have lp : (prL N k Sf).length ≤ 52 := by unfold prL; rw [List.length_map]; exact few
      refine ⟨_, rfl, _, rfl, _, _, rfl, tl_sm tf (prL_tl (td.same s56)) (by omega) (fun r hr => ?_), fun H7 s7 => ⟨_, rfl, iteF ?_⟩⟩
      · obtain ⟨s, _, rfl⟩ := List.mem_map.mp hr
        show 2 ≤ 1000
        decide
      obtain ⟨xs, h6, l6, _⟩ := tf
      rw [List.length_map] at l6
      have h67 := s7 _ _ h6
      refine ⟨_, rfl, .inl ⟨rfl, _, SqL.of h67⟩, (by show 0 ≤ sizeLine; decide), fun e he => ?_⟩
      have s8 := same_new he (.tup [])
      refine ⟨rf, _, _, rfl, rfl, s8 _ _ h67, by rw [l6, sizeLine_eq]; omega, ?_⟩
      refine ⟨fun b o e => ?_, _, _, rfl⟩
      have e5 := s5 _ _ e
      have nb : b ≠ rf := ne_of_none e5 hn
      rw [upd_ne nb]
      exact s8 _ _ (s7 _ _ (s6 _ _ e5))
    · obtain ⟨s5, o6, o7, rfl⟩ := hp
      exact ⟨fin _ ((k2.same s4).same s5), _, _, _, _, _, _, _, _, _, _, _, rfl⟩
  obtain ⟨sm0, o1, o2, o3, o4, o5, o6, o7, o8, o9, o10, o11, rfl⟩ := hp
  have ntab : ∀ {H' : Hp}, Tab LQ H' T → ∀ {z : Addr} {o : HO}, H' z = some o → (∀ ps, o ≠ .tbl ps) → z ≠ T := fun {H'} tt {z o} e n y => by
    obtain ⟨l, e2, _⟩ := tt
    rw [y, e2] at e
    exact n _ (Option.some.inj e).symm
  refine ⟨_, rfl, a, _, rfl, .inl (sm0.seq hS), _, _, rfl, _, _, rfl, _, rfl, ?_, ?_, ?_⟩
  · split <;> split <;> omega
  · split <;> split <;> omega
  refine for_range (fun i σ H' => Same (lessT H T) H' ∧ Tab LQ H' T ∧ ∃ o1 o2 o3 o4 o5 o6 o7 o8 o9 o10 o11, σ = [some (.ref a), o1, o2, o3, o4, o5, o6, o7, o8, o9, o10, o11]) ⟨fun b u e => sm0 _ _ (lessT_some e).2, (Tab.empty hT).same sm0, _, _, _, _, _, _, _, _, _, _, _, rfl⟩ (fun i σ H0 hi hp => ?_) (fun σ H0 hp => q _)
  obtain ⟨sm, tb, o1, o2, o3, o4, o5, o6, o7, o8, o9, o10, o11, rfl⟩ := hp
  refine ⟨_, rfl, _, rfl, a, ns, _, rfl, sm.seq (seq_lessT hT hS), by omega, fun r x bb hr0 d => ?_⟩
  have st1 : StAt (upd H0 r (.lst [.int x, .bl bb])) r x bb := StAt.upd d
  have tbG : Tab LQ (upd H0 r (.lst [.int x, .bl bb])) T := tb.same (same_new hr0 _)
  generalize hG : upd H0 r (.lst [.int x, .bl bb]) = G at st1 tbG ⊢
  have fin : ∀ H', Keep r G H' → Same (lessT H T) H' := fun H' k => sm.trans (same_keep hr0 (by rw [hG]; exact k))
  refine ⟨_, rfl, r, x, bb, 10, rfl, st1, by decide, by decide, fun v1 x1 v10 v11 d1 => ⟨_, _, rfl, rfl, ?_⟩⟩
  have k1 := keep_upd r G (.lst [.int x1, .bl bb])
  have st2 : StAt (upd G r (.lst [.int x1, .bl bb])) r x1 bb := StAt.upd d1
  generalize upd G r (.lst [.int x1, .bl bb]) = G1 at k1 st2 ⊢
  obtain ⟨v1, rfl⟩ := Int.eq_ofNat_of_zero_le v10
  obtain ⟨N, eN⟩ : ∃ N : Nat, N = 1 + v1 := ⟨_, rfl⟩
  have eN' : (1 : Int) + (v1 : Int) = (N : Int) := by omega
  dsimp only
  rw [eN']
  refine ⟨_, rfl, (by show 1 ≤ sizeLine; decide), fun pt hpt => ?_⟩
  have s13 := same_new hpt (.tup [.int 1])
  have hpt13 : (upd G1 pt (.tup [.int 1])) pt = some (.tup [.int 1]) := upd_same
  have ptr : pt ≠ r := (ne_of_none st2.1 hpt).symm
  have k13 := k1.same s13
  have st13 := st2.same s13
  generalize upd G1 pt (.tup [.int 1]) = H13 at hpt13 k13 st13 ⊢
  refine ⟨_, _, rfl, rfl, ⟨by decide, by decide, by decide⟩, _, rfl, _, rfl, _, _, rfl, rfl, _, _, rfl, rfl, ⟨by decide, by decide⟩, (by show 12 ≤ sizeLine; decide), fun po hpo => ?_⟩
  have s15 := same_new hpo (.lst [.int 0, .int 11, .int (-1), .bl true, .bl false, .non, .str "1", .ref pt, .int ((10 : Int) ^ (29 : Int).toNat), .int (N : Int), .int (((N : Int) + 1) / 2), .int 5])
  have hpo15 : (upd H13 po (.lst [.int 0, .int 11, .int (-1), .bl true, .bl false, .non, .str "1", .ref pt, .int ((10 : Int) ^ (29 : Int).toNat), .int (N : Int), .int (((N : Int) + 1) / 2), .int 5])) po = some (.lst [.int 0, .int 11, .int (-1), .bl true, .bl false, .non, .str "1", .ref pt, .int ((10 : Int) ^ (29 : Int).toNat), .int (N : Int), .int (((N : Int) + 1) / 2), .int 5]) := upd_same
  have por : po ≠ r := (ne_of_none st13.1 hpo).symm
  have k15 := k13.same s15
  have st15 := st13.same s15
  have hpt15 := s15 _ _ hpt13
  generalize upd H13 po (.lst [.int 0, .int 11, .int (-1), .bl true, .bl false, .non, .str "1", .ref pt, .int ((10 : Int) ^ (29 : Int).toNat), .int (N : Int), .int (((N : Int) + 1) / 2), .int 5]) = H15 at hpo15 hpt15 k15 st15 ⊢
  refine ⟨_, rfl, r, x1, bb, 12, rfl, st15, by decide, by decide, fun v4 x16 v40 v41 d16 => ?_⟩
  have kk := keep_upd r H15 (.lst [.int x16, .bl bb])
  have k16 := k15.trans kk
  have hpt16 := kk _ _ ptr hpt15
  have hpo16 := kk _ _ por hpo15
  generalize upd H15 r (.lst [.int x16, .bl bb]) = H16 at kk k16 hpt16 hpo16 ⊢
  obtain ⟨u, hu, um, _⟩ := at_mem (xs := [.int 0, .int 11, .int (-1), .bl true, .bl false, .non, .str "1", .ref pt, .int ((10 : Int) ^ (29 : Int).toNat), .int (N : Int), .int (((N : Int) + 1) / 2), .int 5]) v40 (by simpa using v41)
  have kn : ∀ H' : Hp, H' pt = some (.tup [.int 1]) → ∃ Tn, Kn H' u Tn := fun H' y1 => by
    simp only [List.mem_cons, List.not_mem_nil, or_false] at um
    rcases um with rfl | rfl | rfl | rfl | rfl | rfl | rfl | rfl | rfl | rfl | rfl | rfl
    · exact ⟨_, .int _⟩
    · exact ⟨_, .int _⟩
    · exact ⟨_, .int _⟩
    · exact ⟨_, .bl _⟩
    · exact ⟨_, .bl _⟩
    · exact ⟨_, .non⟩
    · exact ⟨_, .str _⟩
    · exact ⟨_, .tup y1⟩
    · exact ⟨_, .int _⟩
    · exact ⟨_, .int _⟩
    · exact ⟨_, .int _⟩
    · exact ⟨_, .int _⟩
  refine ⟨po, _, _, _, rfl, rfl, SqL.of hpo16, hu, ?_⟩
  have tb16 : Tab LQ H16 T := tab_keep tbG st1.1 k16
  have fin16 := fin _ k16
  clear um hu
  refine ⟨_, rfl, (by show 2 ≤ sizeLine; decide), fun t1 ht1 => ⟨_, rfl, _, rfl, (by show 2 ≤ sizeLine; decide), fun t2 ht2 => ⟨_, rfl, _, rfl, (by show 2 ≤ sizeLine; decide), fun t3 ht3 => ⟨_, rfl, (by show 2 ≤ sizeLine; decide), fun t4 ht4 => ⟨(by show 4 ≤ sizeLine; decide), fun lp hlp => ?_⟩⟩⟩⟩⟩
  have e1 := same_new ht1 (.tup [u, .int 0])
  have f1 : (upd H16 t1 (.tup [u, .int 0])) t1 = some (.tup [u, .int 0]) := upd_same
  generalize upd H16 t1 (.tup [u, .int 0]) = D1 at e1 f1 ht2 ht3 ht4 hlp ⊢
  have e2 := same_new ht2 (.tup [.int (N : Int), u])
  have f2 : (upd D1 t2 (.tup [.int (N : Int), u])) t2 = some (.tup [.int (N : Int), u]) := upd_same
  generalize upd D1 t2 (.tup [.int (N : Int), u]) = D2 at e2 f2 ht3 ht4 hlp ⊢
  have e3 := same_new ht3 (.tup [u, u])
  have f3 : (upd D2 t3 (.tup [u, u])) t3 = some (.tup [u, u]) := upd_same
  generalize upd D2 t3 (.tup [u, u]) = D3 at e3 f3 ht4 hlp ⊢
  have e4 := same_new ht4 (.tup [u, .non])
  have f4 : (upd D3 t4 (.tup [u, .non])) t4 = some (.tup [u, .non]) := upd_same
  generalize upd D3 t4 (.tup [u, .non]) = D4 at e4 f4 hlp ⊢
  have e5 := same_new hlp (.lst [.ref t1, .ref t2, .ref t3, .ref t4])
  have f5 : (upd D4 lp (.lst [.ref t1, .ref t2, .ref t3, .ref t4])) lp = some (.lst [.ref t1, .ref t2, .ref t3, .ref t4]) := upd_same
  generalize upd D4 lp (.lst [.ref t1, .ref t2, .ref t3, .ref t4]) = Hx at e5 f5 ⊢
  have E5 := e1.trans (e2.trans (e3.trans (e4.trans e5)))
  have tbx : Tab LQ Hx T := tb16.same E5
  have inX : ∀ {z : Addr} {o : HO}, Hx z = some o → (∀ ps, o ≠ .tbl ps) → ∀ {H' : Hp}, Same (lessT Hx T) H' → H' z = some o := fun {z o} e n {H'} s => s _ _ (lessT_in (ntab tbx e n) e)
  have hptx := E5 _ _ hpt16
  have ft1 := e5 _ _ (e4 _ _ (e3 _ _ (e2 _ _ f1)))
  have ft2 := e5 _ _ (e4 _ _ (e3 _ _ f2))
  have ft3 := e5 _ _ (e4 _ _ f3)
  have ft4 := e5 _ _ f4
  have kx : ∀ {H' : Hp}, Same (lessT Hx T) H' → ∃ Tn, Kn H' u Tn := fun {H'} s => kn H' (inX hptx (fun _ z => nomatch z) s)
  have items : ∀ (j : Nat) (x : V), [V.ref t1, .ref t2, .ref t3, .ref t4][j]? = some x → ∃ (t : Addr) (p q : V), x = .ref t ∧ Hx t = some (.tup [p, q]) ∧ ∀ {H' : Hp}, Same (lessT Hx T) H' → (∃ Tn, Kn H' p Tn) ∧ ∃ Tn, Kn H' q Tn := fun j x e => by
    match j, e with
    | 0, e => cases e; exact ⟨t1, _, _, rfl, ft1, fun s => ⟨kx s, _, .int _⟩⟩
    | 1, e => cases e; exact ⟨t2, _, _, rfl, ft2, fun s => ⟨⟨_, .int _⟩, kx s⟩⟩
    | 2, e => cases e; exact ⟨t3, _, _, rfl, ft3, fun s => ⟨kx s, kx s⟩⟩
    | 3, e => cases e; exact ⟨t4, _, _, rfl, ft4, fun s => ⟨kx s, _, .non⟩⟩
  refine ⟨lp, rfl, ⟨_, SqL.of f5⟩, ?_⟩
  refine for_list (xs := [.ref t1, .ref t2, .ref t3, .ref t4]) (fun j σ H' => Same (lessT Hx T) H' ∧ Tab LQ H' T ∧ ∃ o9 o10 o11, σ = [some (.ref a), some (.int (0 + (i : Int))), some (.ref r), some (.int (N : Int)), o4, o5, o6, o7, some u, o9, o10, o11]) ⟨fun b u e => (lessT_some e).2, tbx, _, _, _, rfl⟩ (fun j σ H2 hj hp => ?_) (fun j x σ H2 hxi hp => ?_) (fun σ H2 hp => ?_)
  · exact SqL.of (inX f5 (fun _ z => nomatch z) hp.1)
  · obtain ⟨s2, tb2, o9, o10, o11, rfl⟩ := hp
    obtain ⟨t, p, p', rfl, htx, kt⟩ := items j x hxi
    have ht2 := inX htx (fun _ z => nomatch z) s2
    obtain ⟨⟨Tp, kp⟩, Tq, kq⟩ := kt s2
    refine ⟨t, _, rfl, SqT.of ht2, rfl, _, _, rfl, _, _, rfl, rfl, ?_⟩
    refine right_rd rfl rfl kp kq ?_ (fun wr => ?_)
    · exact ⟨_, rfl, _, rfl, iteF (iteF ⟨s2, tb2, _, _, _, rfl⟩)⟩
    refine ⟨_, rfl, _, rfl, iteT ⟨tb2, fun f0 H17 L => ?_⟩⟩
    have s17 : Same (lessT Hx T) H17 := fun b o e => L.grow b o (lessT_some e).1 (s2 _ _ e)
    obtain ⟨⟨Tp2, kp2⟩, Tq2, kq2⟩ := kt s17
    refine ⟨_, rfl, _, rfl, p, p', Tp2, Tq2, rfl, kp2, kq2, wr, fun e he => ⟨c0, bm0, e, 0, rfl, rfl, he, e0, hin, kd, fun H18 s18 => ?_⟩⟩
    refine ⟨rfl, _, rfl, iteNS rfl ?_⟩
    have z17 := (same_new he (ExcO e c0)).trans s18
    exact ⟨fun b o e => z17 _ _ (s17 _ _ e), L.tab.same z17, _, _, _, rfl⟩
  · obtain ⟨s2, tb2, o9, o10, o11, rfl⟩ := hp
    exact ⟨fun b o e => s2 _ _ (lessT_in (lessT_some e).1 (E5 _ _ (fin16 _ _ e))), tb2, _, _, _, _, _, _, _, _, _, _, _, rfl⟩
end
end K64
end
namespace K64
open PySem PySem.Spec PyProof.Rows L2
set_option maxHeartbeats 4000000
set_option Elab.async false
theorem all_mk {l : PySem.W.OpenLaw} {w : World} {K : PySem.W.Frag} {h : Heap} {mg : Str → Option Value} {fa c T b_ c0_ c1_ c2_ c3_ c4_ f1 f2 f3 f4 f5 f6 f7 f8 f9 f10 f11 f12 f13 f14 f15 f16 f17 : Addr} (X : K.In h) (G : h.Ns mainGlobals mg) (hfa : mg "law" = some (.ref fa))
    {od1 an1 od2 an2 od3 an3 od4 an4 od5 an5 od6 an6 od7 an7 od8 an8 od9 an9 od10 an10 od11 an11 od12 an12 od13 an13 od14 an14 od15 an15 od16 an16 od17 an17 : Option Addr} {sl1 sl2 sl3 sl4 sl5 sl6 sl7 sl8 sl9 sl10 sl11 sl12 sl13 sl14 sl15 sl16 sl17 : Array (Option Value)} {oc1 kV1 dc1 pm1 cd1 ct1 oc2 kV2 dc2 pm2 cd2 ct2 oc3 kV3 dc3 pm3 cd3 ct3 oc4 kV4 dc4 pm4 cd4 ct4 oc5 kV5 dc5 pm5 cd5 ct5 oc6 kV6 dc6 pm6 cd6 ct6 oc7 kV7 dc7 pm7 cd7 ct7 oc8 kV8 dc8 pm8 cd8 ct8 oc9 kV9 dc9 pm9 cd9 ct9 oc10 kV10 dc10 pm10 cd10 ct10 oc11 kV11 dc11 pm11 cd11 ct11 oc12 kV12 dc12 pm12 cd12 ct12 oc13 kV13 dc13 pm13 cd13 ct13 oc14 kV14 dc14 pm14 cd14 ct14 oc15 kV15 dc15 pm15 cd15 ct15 oc16 kV16 dc16 pm16 cd16 ct16 oc17 kV17 dc17 pm17 ct17 : Value}
    {u1 : Value}
    {nmb_ qqb_ : Str} {Nb_ : Addr} {bsb_ bmb_ sbb_ : List Value} {hdb_ abb_ : Bool} {snb_ : List Str} {cob_ : Option Bool} {ddb_ : Option Addr} {w0b_ w1b_ w2b_ w3b_ w5b_ : Option Value}
    {nmc0_ qqc0_ : Str} {Nc0_ : Addr} {bsc0_ bmc0_ sbc0_ : List Value} {hdc0_ abc0_ : Bool} {snc0_ : List Str} {coc0_ : Option Bool} {ddc0_ : Option Addr} {w0c0_ w1c0_ w2c0_ w3c0_ w5c0_ : Option Value}
    (a1 : PySem.W.nsIn K mainGlobals "is_number" = some (some (.ref f1))) (l1 : K.lookup f1 = some ⟨oc1, od1, .func (PySem.W.fnOf "is_number" "is_number" (defArgs s_is_number) (defBody s_is_number) (defScope s_is_number) .none kV1 dc1 pm1 an1 cd1 ct1), sl1⟩) (c1 : PySem.W.codeIn K cd1 "is_number" = true) (k1 : PySem.W.keepIn K (.ref f1) = true)
    (a2 : PySem.W.nsIn K mainGlobals "need_number" = some (some (.ref f2))) (l2 : K.lookup f2 = some ⟨oc2, od2, .func (PySem.W.fnOf "need_number" "need_number" (defArgs s_need_number) (defBody s_need_number) (defScope s_need_number) .none kV2 dc2 pm2 an2 cd2 ct2), sl2⟩) (c2 : PySem.W.codeIn K cd2 "need_number" = true) (k2 : PySem.W.keepIn K (.ref f2) = true)
    (a3 : PySem.W.nsIn K mainGlobals "carry" = some (some (.ref f3))) (l3 : K.lookup f3 = some ⟨oc3, od3, .func (PySem.W.fnOf "carry" "carry" (defArgs s_carry) (defBody s_carry) (defScope s_carry) .none kV3 dc3 pm3 an3 cd3 ct3), sl3⟩) (c3 : PySem.W.codeIn K cd3 "carry" = true) (k3 : PySem.W.keepIn K (.ref f3) = true)
    (a4 : PySem.W.nsIn K mainGlobals "ways" = some (some (.ref f4))) (l4 : K.lookup f4 = some ⟨oc4, od4, .func (PySem.W.fnOf "ways" "ways" (defArgs s_ways) (defBody s_ways) (defScope s_ways) .none kV4 dc4 pm4 an4 cd4 ct4), sl4⟩) (c4 : PySem.W.codeIn K cd4 "ways" = true) (k4 : PySem.W.keepIn K (.ref f4) = true)
    (a5 : PySem.W.nsIn K mainGlobals "laid_twice" = some (some (.ref f5))) (l5 : K.lookup f5 = some ⟨oc5, od5, .func (PySem.W.fnOf "laid_twice" "laid_twice" (defArgs s_laid_twice) (defBody s_laid_twice) (defScope s_laid_twice) .none kV5 dc5 pm5 an5 cd5 ct5), sl5⟩) (c5 : PySem.W.codeIn K cd5 "laid_twice" = true) (k5 : PySem.W.keepIn K (.ref f5) = true)
    (a6 : PySem.W.nsIn K mainGlobals "ring_carried" = some (some (.ref f6))) (l6 : K.lookup f6 = some ⟨oc6, od6, .func (PySem.W.fnOf "ring_carried" "ring_carried" (defArgs s_ring_carried) (defBody s_ring_carried) (defScope s_ring_carried) .none kV6 dc6 pm6 an6 cd6 ct6), sl6⟩) (c6 : PySem.W.codeIn K cd6 "ring_carried" = true) (k6 : PySem.W.keepIn K (.ref f6) = true)
    (a7 : PySem.W.nsIn K mainGlobals "round_of" = some (some (.ref f7))) (l7 : K.lookup f7 = some ⟨oc7, od7, .func (PySem.W.fnOf "round_of" "round_of" (defArgs s_round_of) (defBody s_round_of) (defScope s_round_of) .none kV7 dc7 pm7 an7 cd7 ct7), sl7⟩) (c7 : PySem.W.codeIn K cd7 "round_of" = true) (k7 : PySem.W.keepIn K (.ref f7) = true)
    (a8 : PySem.W.nsIn K mainGlobals "rounds" = some (some (.ref f8))) (l8 : K.lookup f8 = some ⟨oc8, od8, .func (PySem.W.fnOf "rounds" "rounds" (defArgs s_rounds) (defBody s_rounds) (defScope s_rounds) .none kV8 dc8 pm8 an8 cd8 ct8), sl8⟩) (c8 : PySem.W.codeIn K cd8 "rounds" = true) (k8 : PySem.W.keepIn K (.ref f8) = true)
    (a9 : PySem.W.nsIn K mainGlobals "_law_cell_at" = some (some (.ref f9))) (l9 : K.lookup f9 = some ⟨oc9, od9, .func (PySem.W.fnOf "_law_cell_at" "_law_cell_at" (defArgs s_L_cell_at) (defBody s_L_cell_at) (defScope s_L_cell_at) .none kV9 dc9 pm9 an9 cd9 ct9), sl9⟩) (c9 : PySem.W.codeIn K cd9 "_law_cell_at" = true) (k9 : PySem.W.keepIn K (.ref f9) = true)
    (a10 : PySem.W.nsIn K mainGlobals "_law_state" = some (some (.ref f10))) (l10 : K.lookup f10 = some ⟨oc10, od10, .func (PySem.W.fnOf "_law_state" "_law_state" (defArgs s_L_state) (defBody s_L_state) (defScope s_L_state) .none kV10 dc10 pm10 an10 cd10 ct10), sl10⟩) (c10 : PySem.W.codeIn K cd10 "_law_state" = true) (k10 : PySem.W.keepIn K (.ref f10) = true)
    (a11 : PySem.W.nsIn K mainGlobals "_law_take" = some (some (.ref f11))) (l11 : K.lookup f11 = some ⟨oc11, od11, .func (PySem.W.fnOf "_law_take" "_law_take" (defArgs s_L_take) (defBody s_L_take) (defScope s_L_take) .none kV11 dc11 pm11 an11 cd11 ct11), sl11⟩) (c11 : PySem.W.codeIn K cd11 "_law_take" = true) (k11 : PySem.W.keepIn K (.ref f11) = true)
    (a12 : PySem.W.nsIn K mainGlobals "_law_stepped" = some (some (.ref f12))) (l12 : K.lookup f12 = some ⟨oc12, od12, .func (PySem.W.fnOf "_law_stepped" "_law_stepped" (defArgs s_L_stepped) (defBody s_L_stepped) (defScope s_L_stepped) .none kV12 dc12 pm12 an12 cd12 ct12), sl12⟩) (c12 : PySem.W.codeIn K cd12 "_law_stepped" = true) (k12 : PySem.W.keepIn K (.ref f12) = true)
    (a13 : PySem.W.nsIn K mainGlobals "_law_whole" = some (some (.ref f13))) (l13 : K.lookup f13 = some ⟨oc13, od13, .func (PySem.W.fnOf "_law_whole" "_law_whole" (defArgs s_L_whole) (defBody s_L_whole) (defScope s_L_whole) .none kV13 dc13 pm13 an13 cd13 ct13), sl13⟩) (c13 : PySem.W.codeIn K cd13 "_law_whole" = true) (k13 : PySem.W.keepIn K (.ref f13) = true)
    (a14 : PySem.W.nsIn K mainGlobals "_law_same" = some (some (.ref f14))) (l14 : K.lookup f14 = some ⟨oc14, od14, .func (PySem.W.fnOf "_law_same" "_law_same" (defArgs s_L_same) (defBody s_L_same) (defScope s_L_same) .none kV14 dc14 pm14 an14 cd14 ct14), sl14⟩) (c14 : PySem.W.codeIn K cd14 "_law_same" = true) (k14 : PySem.W.keepIn K (.ref f14) = true)
    (a15 : PySem.W.nsIn K mainGlobals "_law_refused" = some (some (.ref f15))) (l15 : K.lookup f15 = some ⟨oc15, od15, .func (PySem.W.fnOf "_law_refused" "_law_refused" (defArgs s_L_refused) (defBody s_L_refused) (defScope s_L_refused) .none kV15 dc15 pm15 an15 cd15 ct15), sl15⟩) (c15 : PySem.W.codeIn K cd15 "_law_refused" = true) (k15 : PySem.W.keepIn K (.ref f15) = true)
    (a16 : PySem.W.nsIn K mainGlobals "_law_due" = some (some (.ref f16))) (l16 : K.lookup f16 = some ⟨oc16, od16, .func (PySem.W.fnOf "_law_due" "_law_due" (defArgs s_L_due) (defBody s_L_due) (defScope s_L_due) .none kV16 dc16 pm16 an16 cd16 ct16), sl16⟩) (c16 : PySem.W.codeIn K cd16 "_law_due" = true) (k16 : PySem.W.keepIn K (.ref f16) = true)
    (a17 : PySem.W.nsIn K mainGlobals "law" = some (some (.ref f17))) (l17 : K.lookup f17 = some ⟨oc17, od17, .func (PySem.W.fnOf "law" "law" (defArgs s_law) (defBody s_law) (defScope s_law) .none kV17 dc17 pm17 an17 (.ref c) ct17), sl17⟩) (c17 : PySem.W.codeIn K (.ref c) "law" = true) (k17 : PySem.W.keepIn K (.ref f17) = true)
    (n1 : PySem.W.nsIn K mainGlobals "MOST_FOR_ROUNDS" = some (some u1)) (e1 : RelV (.int 10) u1)
    (xb_ : PySem.W.nsIn K mainGlobals "BallError" = some (some (.ref b_)))
    (xc0_ : PySem.W.nsIn K mainGlobals "NoNumber" = some (some (.ref c0_)))
    (xc1_ : PySem.W.nsIn K mainGlobals "NotFree" = some (some (.ref c1_)))
    (xc2_ : PySem.W.nsIn K mainGlobals "TooLong" = some (some (.ref c2_)))
    (xc3_ : PySem.W.nsIn K mainGlobals "NoRow" = some (some (.ref c3_)))
    (xc4_ : PySem.W.nsIn K mainGlobals "BadNote" = some (some (.ref c4_)))
    (lkb_ : K.lookup b_ = some (excClassObj nmb_ qqb_ b_ Nb_ bsb_ bmb_ hdb_ snb_ sbb_ abb_ cob_ ddb_ w0b_ w1b_ w2b_ w3b_ w5b_ "ValueError.__new__")) (nob_ : PySem.W.nsOkIn K Nb_ = true) (nib_ : PySem.W.nsIn K Nb_ "__init__" = some none) (tlb_ : PySem.W.tailIn K mroV bmb_ = true) (cbb_ : bmb_.contains (.type "BaseException") = true) (cvb_ : bmb_.contains (.type "ValueError") = true)
    (lkc0_ : K.lookup c0_ = some (excClassObj nmc0_ qqc0_ c0_ Nc0_ bsc0_ bmc0_ hdc0_ snc0_ sbc0_ abc0_ coc0_ ddc0_ w0c0_ w1c0_ w2c0_ w3c0_ w5c0_ "ValueError.__new__")) (noc0_ : PySem.W.nsOkIn K Nc0_ = true) (nic0_ : PySem.W.nsIn K Nc0_ "__init__" = some none) (tlc0_ : PySem.W.tailIn K mroV bmc0_ = true) (cbc0_ : bmc0_.contains (.type "BaseException") = true) (cvc0_ : bmc0_.contains (.type "ValueError") = true)
    (g1c0_ : PySem.W.findIn K (.ref c0_) "__getattribute__" = some (some (.builtin "BaseException.__getattribute__"))) (g2c0_ : PySem.W.findIn K (.ref c0_) "__class__" = some (some (.builtin "object.__class__"))) (g3c0_ : PySem.W.findIn K (.ref c0_) "__getattr__" = some none) (g4c0_ : PySem.W.subIn K (.ref c0_) (.type "BaseException") = some true) (g5c0_ : PySem.W.subIn K (.ref c0_) (.type "object") = some true)
    (q0c0_ : PySem.W.kitOne K (.ref c0_) (.ref c0_) = some true) (q1c0_ : PySem.W.kitOne K (.ref c0_) (.ref c1_) = some false) (q2c0_ : PySem.W.kitOne K (.ref c0_) (.ref c2_) = some false) (q3c0_ : PySem.W.kitOne K (.ref c0_) (.ref c3_) = some false) (q4c0_ : PySem.W.kitOne K (.ref c0_) (.ref c4_) = some false) (qvc0_ : PySem.W.kitOne K (.ref c0_) (.type "ValueError") = some true) (hic0_ : (Value.ref c0_ :: bmc0_).contains (.ref b_) = true)
    (ch : PySem.W.codeHdIn K c T = true) (kt : K.lookup T = none)
    (z1 : PySem.W.nsIn K mainGlobals "len" = some none) (z2 : PySem.W.nsIn K mainGlobals "isinstance" = some none) (z3 : PySem.W.nsIn K mainGlobals "bool" = some none) (z4 : PySem.W.nsIn K mainGlobals "int" = some none) (z5 : PySem.W.nsIn K mainGlobals "tuple" = some none) (z6 : PySem.W.nsIn K mainGlobals "list" = some none) (z7 : PySem.W.nsIn K mainGlobals "range" = some none) (z8 : PySem.W.nsIn K mainGlobals "zip" = some none) (z9 : PySem.W.nsIn K mainGlobals "all" = some none) (z10 : PySem.W.nsIn K mainGlobals "max" = some none) (z11 : PySem.W.nsIn K mainGlobals "min" = some none) (z12 : PySem.W.nsIn K mainGlobals "reversed" = some none) (z13 : PySem.W.nsIn K mainGlobals "abs" = some none) (z14 : PySem.W.nsIn K mainGlobals "dict" = some none) (z15 : PySem.W.nsIn K mainGlobals "sorted" = some none) (z16 : PySem.W.nsIn K mainGlobals "sum" = some none) (z17 : PySem.W.nsIn K mainGlobals "ValueError" = some none) :
    ∃ (fd : FuncData) (c : Addr), (∀ (s : Shared) (v : Value), BindsTo s fd ⟨[v], []⟩ [("_law_script", v)]) ∧ K.lookup T = none ∧ PySem.W.codeHdIn K c T = true ∧ ∀ base : Heap, K.In base → base.Ns mainGlobals mg → BltAt mg base → FnOk l.prog w K mg base CX0 7 fa fd ["_law_script"] (spLaw K T) := by
  have e := hfa.symm.trans (PySem.W.mg_of X G a17)
  cases e
  have F1 := fun_mk (st := s_is_number) l1 c1 k1
  have b1 := F1.binds (ps := ["thing", "least", "greatest"]) fun _ _ _ _ _ _ us hl => match us, hl with | [_, _, _], _ => rfl
  have F2 := fun_mk (st := s_need_number) l2 c2 k2
  have b2 := F2.binds (ps := ["thing", "least", "greatest"]) fun _ _ _ _ _ _ us hl => match us, hl with | [_, _, _], _ => rfl
  have F3 := fun_mk (st := s_carry) l3 c3 k3
  have b3 := F3.binds (ps := ["row", "size"]) fun _ _ _ _ _ _ us hl => match us, hl with | [_, _], _ => rfl
  have F4 := fun_mk (st := s_ways) l4 c4 k4
  have b4 := F4.binds (ps := ["boxes", "balls"]) fun _ _ _ _ _ _ us hl => match us, hl with | [_, _], _ => rfl
  have F5 := fun_mk (st := s_laid_twice) l5 c5 k5
  have b5 := F5.binds (ps := ["ring"]) fun _ _ _ _ _ _ us hl => match us, hl with | [_], _ => rfl
  have F6 := fun_mk (st := s_ring_carried) l6 c6 k6
  have b6 := F6.binds (ps := ["ring"]) fun _ _ _ _ _ _ us hl => match us, hl with | [_], _ => rfl
  have F7 := fun_mk (st := s_round_of) l7 c7 k7
  have b7 := F7.binds (ps := ["ring"]) fun _ _ _ _ _ _ us hl => match us, hl with | [_], _ => rfl
  have F8 := fun_mk (st := s_rounds) l8 c8 k8
  have b8 := F8.binds (ps := ["many", "balls"]) fun _ _ _ _ _ _ us hl => match us, hl with | [_, _], _ => rfl
  have F9 := fun_mk (st := s_L_cell_at) l9 c9 k9
  have b9 := F9.binds (ps := ["_law_script", "_law_k"]) fun _ _ _ _ _ _ us hl => match us, hl with | [_, _], _ => rfl
  have F10 := fun_mk (st := s_L_state) l10 c10 k10
  have b10 := F10.binds (ps := ["_law_script", "_law_k"]) fun _ _ _ _ _ _ us hl => match us, hl with | [_, _], _ => rfl
  have F11 := fun_mk (st := s_L_take) l11 c11 k11
  have b11 := F11.binds (ps := ["_law_state_here", "_law_many"]) fun _ _ _ _ _ _ us hl => match us, hl with | [_, _], _ => rfl
  have F12 := fun_mk (st := s_L_stepped) l12 c12 k12
  have b12 := F12.binds (ps := ["_law_ring", "_law_way"]) fun _ _ _ _ _ _ us hl => match us, hl with | [_, _], _ => rfl
  have F13 := fun_mk (st := s_L_whole) l13 c13 k13
  have b13 := F13.binds (ps := ["_law_thing"]) fun _ _ _ _ _ _ us hl => match us, hl with | [_], _ => rfl
  have F14 := fun_mk (st := s_L_same) l14 c14 k14
  have b14 := F14.binds (ps := ["_law_found", "_law_due_here"]) fun _ _ _ _ _ _ us hl => match us, hl with | [_, _], _ => rfl
  have F15 := fun_mk (st := s_L_refused) l15 c15 k15
  have b15 := F15.binds (ps := ["_law_call"]) fun _ _ _ _ _ _ us hl => match us, hl with | [_], _ => rfl
  have F16 := fun_mk (st := s_L_due) l16 c16 k16
  have b16 := F16.binds (ps := ["_law_many", "_law_few"]) fun _ _ _ _ _ _ us hl => match us, hl with | [_, _], _ => rfl
  have F17 := fun_mk (st := s_law) l17 c17 k17
  have nb0 : Nb mg := ⟨PySem.W.mg_none_of X G z1, PySem.W.mg_none_of X G z2, PySem.W.mg_none_of X G z3, PySem.W.mg_none_of X G z4, PySem.W.mg_none_of X G z5, PySem.W.mg_none_of X G z6, PySem.W.mg_none_of X G z7, PySem.W.mg_none_of X G z8, PySem.W.mg_none_of X G z9, PySem.W.mg_none_of X G z10, PySem.W.mg_none_of X G z11⟩
  have nb2 : Nb2 mg := ⟨nb0, PySem.W.mg_none_of X G z12, PySem.W.mg_none_of X G z13⟩
  have nb3 : Nb3 mg := ⟨nb2, PySem.W.mg_none_of X G z14, PySem.W.mg_none_of X G z15⟩
  have nb : Nb4 mg := ⟨nb3, PySem.W.mg_none_of X G z16, PySem.W.mg_none_of X G z17⟩
  have c_MOST_FOR_ROUNDS : ∃ u, mg "MOST_FOR_ROUNDS" = some u ∧ RelV (.int 10) u := ⟨u1, PySem.W.mg_of X G n1, e1⟩
  have exb_ : Exc K b_ bmb_ := ⟨⟨_, _, _, _, _, _, _, _, _, _, _, _, _, _, _, lkb_, nob_, nib_⟩, tlb_, cbb_, cvb_⟩
  have exc0_ : Exc K c0_ bmc0_ := ⟨⟨_, _, _, _, _, _, _, _, _, _, _, _, _, _, _, lkc0_, noc0_, nic0_⟩, tlc0_, cbc0_, cvc0_⟩
  have efc0_ : ExcF K c0_ bmc0_ := ⟨exc0_, g1c0_, g2c0_, g3c0_, g4c0_, g5c0_⟩
  have kdc0_ : Kind5 K c0_ c1_ c2_ c3_ c4_ c0_ 0 := ⟨q0c0_, q1c0_, q2c0_, q3c0_, q4c0_, qvc0_, by decide⟩
  have er : Errs K mg b_ c0_ c1_ c2_ c3_ c4_ := ⟨PySem.W.mg_of X G xb_, PySem.W.mg_of X G xc0_, PySem.W.mg_of X G xc1_, PySem.W.mg_of X G xc2_, PySem.W.mg_of X G xc3_, PySem.W.mg_of X G xc4_, ⟨_, exb_⟩⟩
  refine ⟨PySem.W.fnOf "law" "law" (defArgs s_law) (defBody s_law) (defScope s_law) .none kV17 dc17 pm17 an17 (.ref c) ct17, c, fun s v => .of_eq rfl, kt, ch, fun base kb _ Bl => ?_⟩
  have hA_is_number : ∀ base, Has l.prog w K mg base 1 "is_number" ["thing", "least", "greatest"] spNum := fun base => ⟨f1, _, ok_is_number F1 nb0, PySem.W.mg_of X G a1, k1, b1⟩
  have hA_need_number : ∀ base, Has l.prog w K mg base 2 "need_number" ["thing", "least", "greatest"] spNeed := fun base => ⟨f2, _, ok_need_number F2 nb3 (hA_is_number base), PySem.W.mg_of X G a2, k2, b2⟩
  have hE_need_number : ∀ base, HasE l.prog w K mg base 2 "need_number" ["thing", "least", "greatest"] (spNeedE c0_) := fun base => ⟨f2, _, ok_need_numberE F2 nb3 (hA_is_number base) er.m0 efc0_.toExc, PySem.W.mg_of X G a2, k2, b2⟩
  have hE_rounds : ∀ base, HasE l.prog w K mg base 3 "rounds" ["many", "balls"] (spRndE c0_) := fun base => ⟨f8, _, ok_roundsE F8 nb3 (hA_need_number base) (hE_need_number base) c_MOST_FOR_ROUNDS, PySem.W.mg_of X G a8, k8, b8⟩
  have h_ref : HasR l.prog w K mg 6 5 "_law_refused" "_law_call" Rn (Ec K b_ c0_ c1_ c2_ c3_ c4_) := ⟨f15, _, fun base => ok_L_refused F15 nb er, PySem.W.mg_of X G a15, k15, b15⟩
  have h_ways : Has l.prog w K mg base 1 "ways" ["boxes", "balls"] spWays := ⟨f4, _, ok_ways F4 nb0, PySem.W.mg_of X G a4, k4, b4⟩
  have h_carry : Has l.prog w K mg base 1 "carry" ["row", "size"] spCarry := ⟨f3, _, ok_carry F3 nb2, PySem.W.mg_of X G a3, k3, b3⟩
  have h_laid_twice : Has l.prog w K mg base 1 "laid_twice" ["ring"] spTw := ⟨f5, _, ok_laid_twice F5 nb3, PySem.W.mg_of X G a5, k5, b5⟩
  have h_ring_carried : Has l.prog w K mg base 2 "ring_carried" ["ring"] spRc := ⟨f6, _, ok_ring_carried F6 nb3 h_laid_twice h_carry, PySem.W.mg_of X G a6, k6, b6⟩
  have h_round_of : Has l.prog w K mg base 3 "round_of" ["ring"] spRo := ⟨f7, _, ok_round_of F7 nb3 h_ring_carried, PySem.W.mg_of X G a7, k7, b7⟩
  have h_rounds : Has l.prog w K mg base 4 "rounds" ["many", "balls"] spRnds := ⟨f8, _, ok_rounds F8 nb3 (hA_need_number base) h_ways h_round_of c_MOST_FOR_ROUNDS, PySem.W.mg_of X G a8, k8, b8⟩
  have h_L_stepped : Has l.prog w K mg base 1 "_law_stepped" ["_law_ring", "_law_way"] spStp := ⟨f12, _, ok_L_stepped F12 nb3, PySem.W.mg_of X G a12, k12, b12⟩
  have h_L_cell_at : Has l.prog w K mg base 1 "_law_cell_at" ["_law_script", "_law_k"] (spCell K) := ⟨f9, _, ok_L_cell_at F9 nb0, PySem.W.mg_of X G a9, k9, b9⟩
  have h_L_state : Has l.prog w K mg base 2 "_law_state" ["_law_script", "_law_k"] (spState K) := ⟨f10, _, ok_L_state F10 nb0 h_L_cell_at, PySem.W.mg_of X G a10, k10, b10⟩
  have h_L_take : Has l.prog w K mg base 1 "_law_take" ["_law_state_here", "_law_many"] (spTake K) := ⟨f11, _, ok_L_take F11 nb0, PySem.W.mg_of X G a11, k11, b11⟩
  have h_L_whole : Has l.prog w K mg base 1 "_law_whole" ["_law_thing"] spWh := ⟨f13, _, ok_L_whole F13 nb3, PySem.W.mg_of X G a13, k13, b13⟩
  have h_L_due : Has l.prog w K mg base 4 "_law_due" ["_law_many", "_law_few"] spDue := ⟨f16, _, ok_L_due F16 nb3 h_L_stepped, PySem.W.mg_of X G a16, k16, b16⟩
  have hs0 : Has l.prog w K mg base 0 "_law_same" ["_law_found", "_law_due_here"] (spSame 0) := ⟨f14, _, none_left, PySem.W.mg_of X G a14, k14, b14⟩
  have hs1 : Has l.prog w K mg base 1 "_law_same" ["_law_found", "_law_due_here"] (spSame 1) := ⟨f14, _, ok_L_same F14 nb2 hs0, PySem.W.mg_of X G a14, k14, b14⟩
  have hs2 : Has l.prog w K mg base 2 "_law_same" ["_law_found", "_law_due_here"] (spSame 2) := ⟨f14, _, ok_L_same F14 nb2 hs1, PySem.W.mg_of X G a14, k14, b14⟩
  have h_L_same : Has l.prog w K mg base 3 "_law_same" ["_law_found", "_law_due_here"] (spSame 3) := ⟨f14, _, ok_L_same F14 nb2 hs2, PySem.W.mg_of X G a14, k14, b14⟩
  exact ok_law F17 nb h_L_state h_L_take h_L_due h_L_same h_rounds h_L_whole h_ref hE_rounds rfl (PySem.W.codeHd_of_K kb ch) Bl efc0_ hic0_ kdc0_
theorem walk {l : PySem.W.OpenLaw} {q : Program} {loose : List Str} {XP : (Str → Option Value) → Heap → Prop} {YP : World → Heap → Prop} {d : DefRec} {K : Params → PySem.W.Frag} {T : Addr} (hn : l.most = some 63) (hdf : d.params.defaults = [])
    (hY : ∀ (w : World) (h : Heap), YP w h → (K w.params).In h ∧ h.get? T = some (PySem.W.tabObj #[]))
    (F : ∀ (w : World) (mg : Str → Option Value) (fa : Addr) (h : Heap), (K w.params).In h → h.Ns mainGlobals mg → mg d.name = some (.ref fa) →
      ∃ (fd : FuncData) (c : Addr), (∀ (s : Shared) (u : Value), BindsTo s fd ⟨[u], []⟩ [("_law_script", u)]) ∧ (K w.params).lookup T = none ∧ PySem.W.codeHdIn (K w.params) c T = true ∧ ∀ base : Heap, (K w.params).In base → base.Ns mainGlobals mg → BltAt mg base → FnOk l.prog w (K w.params) mg base CX0 7 fa fd ["_law_script"] (spLaw (K w.params) T)) :
    PySem.W.WalkO q loose XP YP l.row.toRowW d [] (fun f vs => PySem.call f vs) :=
  L2.walk_ofT (n := 63) (k := 7) (x := "_law_script") (sp := fun w => spLaw (K w.params) T) hn (by decide) hdf ⟨rfl, by decide, by decide⟩ hY F (fun _ _ a ns hl hT hS => ⟨a, ns, rfl, hS, hl, hT, fun _ => rfl⟩)
end K64
open PySem PySem.W PyProof.Rows
set_option maxRecDepth 100000 in
set_option maxHeartbeats 0 in
theorem PySem.Challenge.cw_boxballs_k64_rounds_of_all_rings_holds : PySem.Challenge.rw_boxballs_k64_rounds_of_all_rings.Holds := by
  w_on; o_law; k_head; (case hw => w_witness2)
  k_fill
  refine K64.walk (l := PySem.Challenge.rw_boxballs_k64_rounds_of_all_rings) rfl rfl (fun w h Y => ⟨PySem.W.km_in_of Y, PySem.W.km_tabs_of Y _ (.head _)⟩) ?F
  case F =>
    intro w mg fa h KX G hmg
    refine' K64.all_mk KX G hmg ?a1 ?l1 ?c1 ?k1 ?a2 ?l2 ?c2 ?k2 ?a3 ?l3 ?c3 ?k3 ?a4 ?l4 ?c4 ?k4 ?a5 ?l5 ?c5 ?k5 ?a6 ?l6 ?c6 ?k6 ?a7 ?l7 ?c7 ?k7 ?a8 ?l8 ?c8 ?k8 ?a9 ?l9 ?c9 ?k9 ?a10 ?l10 ?c10 ?k10 ?a11 ?l11 ?c11 ?k11 ?a12 ?l12 ?c12 ?k12 ?a13 ?l13 ?c13 ?k13 ?a14 ?l14 ?c14 ?k14 ?a15 ?l15 ?c15 ?k15 ?a16 ?l16 ?c16 ?k16 ?a17 ?l17 ?c17 ?k17 ?n1 ?e1 ?xb_ ?xc0_ ?xc1_ ?xc2_ ?xc3_ ?xc4_ ?lkb_ ?nob_ ?nib_ ?tlb_ ?cbb_ ?cvb_ ?lkc0_ ?noc0_ ?nic0_ ?tlc0_ ?cbc0_ ?cvc0_ ?g1c0_ ?g2c0_ ?g3c0_ ?g4c0_ ?g5c0_ ?q0c0_ ?q1c0_ ?q2c0_ ?q3c0_ ?q4c0_ ?qvc0_ ?hic0_ ?ch ?kt ?z1 ?z2 ?z3 ?z4 ?z5 ?z6 ?z7 ?z8 ?z9 ?z10 ?z11 ?z12 ?z13 ?z14 ?z15 ?z16 ?z17
    (case a1 => k_is)
    (case l1 => k_is)
    (case c1 => k_is)
    (case k1 => k_is)
    (case a2 => k_is)
    (case l2 => k_is)
    (case c2 => k_is)
    (case k2 => k_is)
    (case a3 => k_is)
    (case l3 => k_is)
    (case c3 => k_is)
    (case k3 => k_is)
    (case a4 => k_is)
    (case l4 => k_is)
    (case c4 => k_is)
    (case k4 => k_is)
    (case a5 => k_is)
    (case l5 => k_is)
    (case c5 => k_is)
    (case k5 => k_is)
    (case a6 => k_is)
    (case l6 => k_is)
    (case c6 => k_is)
    (case k6 => k_is)
    (case a7 => k_is)
    (case l7 => k_is)
    (case c7 => k_is)
    (case k7 => k_is)
    (case a8 => k_is)
    (case l8 => k_is)
    (case c8 => k_is)
    (case k8 => k_is)
    (case a9 => k_is)
    (case l9 => k_is)
    (case c9 => k_is)
    (case k9 => k_is)
    (case a10 => k_is)
    (case l10 => k_is)
    (case c10 => k_is)
    (case k10 => k_is)
    (case a11 => k_is)
    (case l11 => k_is)
    (case c11 => k_is)
    (case k11 => k_is)
    (case a12 => k_is)
    (case l12 => k_is)
    (case c12 => k_is)
    (case k12 => k_is)
    (case a13 => k_is)
    (case l13 => k_is)
    (case c13 => k_is)
    (case k13 => k_is)
    (case a14 => k_is)
    (case l14 => k_is)
    (case c14 => k_is)
    (case k14 => k_is)
    (case a15 => k_is)
    (case l15 => k_is)
    (case c15 => k_is)
    (case k15 => k_is)
    (case a16 => k_is)
    (case l16 => k_is)
    (case c16 => k_is)
    (case k16 => k_is)
    (case a17 => k_is)
    (case l17 => k_is)
    (case c17 => k_is)
    (case k17 => k_is)
    (case n1 => k_is)
    (case e1 => exact ⟨_, rfl⟩)
    (case xb_ => k_is)
    (case xc0_ => k_is)
    (case xc1_ => k_is)
    (case xc2_ => k_is)
    (case xc3_ => k_is)
    (case xc4_ => k_is)
    (case lkb_ => k_is)
    (case nob_ => kernel_rfl)
    (case nib_ => k_is)
    (case tlb_ => kernel_rfl)
    (case cbb_ => first | k_is | decide | rfl)
    (case cvb_ => first | k_is | decide | rfl)
    (case lkc0_ => k_is)
    (case noc0_ => kernel_rfl)
    (case nic0_ => k_is)
    (case tlc0_ => kernel_rfl)
    (case cbc0_ => first | k_is | decide | rfl)
    (case cvc0_ => first | k_is | decide | rfl)
    (case g1c0_ => k_is)
    (case g2c0_ => k_is)
    (case g3c0_ => k_is)
    (case g4c0_ => k_is)
    (case g5c0_ => k_is)
    (case q0c0_ => kernel_rfl)
    (case q1c0_ => kernel_rfl)
    (case q2c0_ => kernel_rfl)
    (case q3c0_ => kernel_rfl)
    (case q4c0_ => kernel_rfl)
    (case qvc0_ => kernel_rfl)
    (case hic0_ => first | k_is | decide | rfl)
    (case ch => kernel_rfl)
    (case kt => kernel_rfl)
    (case z1 => k_is)
    (case z2 => k_is)
    (case z3 => k_is)
    (case z4 => k_is)
    (case z5 => k_is)
    (case z6 => k_is)
    (case z7 => k_is)
    (case z8 => k_is)
    (case z9 => k_is)
    (case z10 => k_is)
    (case z11 => k_is)
    (case z12 => k_is)
    (case z13 => k_is)
    (case z14 => k_is)
    (case z15 => k_is)
    (case z16 => k_is)
    (case z17 => k_is)
