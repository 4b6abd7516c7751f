import PyProof.Rows.All
import Wide.All
import OpenK.AllK
import Wide.FinOn
import Lean
import PyProof.EqAt
import PyProof.EqKinds
import PyProof.TupleCall
import KE.KSortTup
import PyProof.TupleOfGen
import PyProof.ListRange
import PyProof.Rows.ZipGen
import KE.KRevIter
import PyProof.NeKinds
import PyProof.CompUse
import KE.KDictSum
import PyProof.Rows.SortWalk
import PyProof.AttrMissHeap
import KE.KDictOf
import PyProof.StationsW
import PyProof.ExcClass2
import PyProof.ExcBaseAll.ValueError
import OpenK.KOwn
import PyProof.RulesAs
import PyProof.Rows.Catch
import PyProof.ExcAttrAll.ValueError
import KE.KIsAll
import PyProof.NsDelKeeps
import KE.KLam
import KE.KTupSum
import PyProof.SeqI3
import PyProof.Rows.SeqMore
import PyProof.MinMaxWalk
import PyProof.WalkInts
import PyProof.Rows.CallKwBuiltin
import KE.KRevSl
import PySem.Challenge.RW_boxballs_k42_depths_of_pairs
section
-- CHANGE: your row's module here, as the last of these rows
set_option Elab.async false
set_option linter.all false
set_option maxRecDepth 100000
/-! THE HAND LAYER, for ints, bools, texts, own classes, LISTS and tuples (index, slices, in, append, pop ..), calls, loops. Paste it whole ahead of your own text; what your proof does not reach may be deleted. -/
namespace L2
open PySem PySem.Spec PyProof.Rows

/-- a key: an int or a str -/
abbrev Key := Sum Int Str
def keyIs : Key → Value → Bool
  | .inl k, v => Value.isInt k v
  | .inr x, v => Value.isStrOf x v
def keyH (w : World) : Key → Int
  | .inl k => hashInt k
  | .inr x => hashStr w x
theorem keyIs_shape : ∀ {k : Key} {v : Value}, keyIs k v = true → (∃ i t, k = Sum.inl i ∧ v = Value.int i t) ∨ (∃ x t, k = Sum.inr x ∧ v = Value.str x t)
  | .inl i, v, h => by
    obtain ⟨t, e⟩ := Value.isInt_shape (k := i) (v := v) h
    exact .inl ⟨i, t, rfl, e⟩
  | .inr x, v, h => by
    obtain ⟨t, e⟩ := Value.isStrOf_shape (x := x) (v := v) h
    exact .inr ⟨x, t, rfl, e⟩
theorem keyIs_int (i : Int) (t : Tok) : keyIs (.inl i) (.int i t) = true := by simp [keyIs, Value.isInt]
theorem keyIs_str (x : Str) (t : Tok) : keyIs (.inr x) (.str x t) = true := by simp [keyIs, Value.isStrOf]
theorem key_ll (a b : Int) : decide ((Sum.inl a : Key) = Sum.inl b) = (a == b) := by
  by_cases e : a = b
  · subst e; simp
  · have h : ¬ (Sum.inl a : Key) = Sum.inl b := fun q => e (Sum.inl.inj q)
    rw [decide_eq_false h]
    exact (beq_eq_false_iff_ne.mpr e).symm
theorem key_rr (a b : Str) : decide ((Sum.inr a : Key) = Sum.inr b) = decide (a = b) := by
  by_cases e : a = b
  · subst e; simp
  · have h : ¬ (Sum.inr a : Key) = Sum.inr b := fun q => e (Sum.inr.inj q)
    rw [decide_eq_false h, decide_eq_false e]
theorem key_lr (a : Int) (b : Str) : decide ((Sum.inl a : Key) = Sum.inr b) = false := decide_eq_false (fun q => nomatch q)
theorem key_rl (a : Str) (b : Int) : decide ((Sum.inr a : Key) = Sum.inl b) = false := decide_eq_false (fun q => nomatch q)

def mixKind (prog : Program) (w : World) : PySem.KeyKind prog w Key where
  is := keyIs
  hash := keyH w
  inj := fun v a b ha hb => by
    rcases keyIs_shape ha with ⟨i, t, rfl, rfl⟩ | ⟨x, t, rfl, rfl⟩
    · rcases keyIs_shape hb with ⟨j, u, rfl, e⟩ | ⟨y, u, rfl, e⟩
      · injection e with e1 _; rw [e1]
      · exact nomatch e
    · rcases keyIs_shape hb with ⟨j, u, rfl, e⟩ | ⟨y, u, rfl, e⟩
      · exact nomatch e
      · injection e with e1 _; rw [e1]
  byValue := fun k v h => by
    rcases keyIs_shape h with ⟨i, t, rfl, rfl⟩ | ⟨x, t, rfl, rfl⟩ <;> rfl
  pyHash := fun hv h => by
    rcases keyIs_shape hv with ⟨i, t, rfl, rfl⟩ | ⟨x, t, rfl, rfl⟩
    · exact wpAny_pyHash_int h
    · exact wpAny_pyHash_str h
  eqBool := fun hu hv h => by
    rcases keyIs_shape hu with ⟨i, t, rfl, rfl⟩ | ⟨x, t, rfl, rfl⟩
    · rcases keyIs_shape hv with ⟨j, u, rfl, rfl⟩ | ⟨y, u, rfl, rfl⟩
      · rw [key_ll] at h; exact wpAny_eqBool_int h
      · rw [key_lr] at h; exact SeqAt.EqAt.int_str i t y u _ _ _ _ h
    · rcases keyIs_shape hv with ⟨j, u, rfl, rfl⟩ | ⟨y, u, rfl, rfl⟩
      · rw [key_rl] at h; exact SeqAt.EqAt.str_int x t j u _ _ _ _ h
      · rw [key_rr] at h; exact wpAny_eqBool_str h
  «strs» := fun k x t v h => by
    rcases keyIs_shape h with ⟨i, u, rfl, e⟩ | ⟨y, u, rfl, e⟩
    · exact nomatch e
    · injection e with e1 _
      subst e1
      cases v <;> rfl

theorem mixKind_int (prog : Program) (w : World) (i : Int) (t : Tok) : (mixKind prog w).is (.inl i) (.int i t) = true := keyIs_int i t
theorem mixKind_str (prog : Program) (w : World) (x : Str) (t : Tok) : (mixKind prog w).is (.inr x) (.str x t) = true := keyIs_str x t
end L2

namespace L2
open PySem PySem.Spec PyProof.Rows

/-- a value, without the heap -/
inductive V where
  | non | bl (b : Bool) | int (i : Int) | str (x : Str) | byt (b : Array UInt8) | flt (b : UInt64) | ref (a : Addr) | ty (n : String)
  deriving DecidableEq

def RelV : V → Value → Prop
  | .non, u => u = Value.none
  | .bl b, u => u = Value.bool b
  | .int i, u => ∃ t, u = Value.int i t
  | .str x, u => ∃ t, u = Value.str x t
  | .byt b, u => ∃ t, u = Value.bytes b t
  | .flt b, u => ∃ t, u = Value.float b t
  | .ref a, u => u = Value.ref a
  | .ty n, u => u = Value.type n

abbrev Vals : List V → List Value → Prop := Paired RelV
theorem Vals.length {xs : List V} {us : List Value} (r : Vals xs us) : xs.length = us.length := Paired.length r
theorem Vals.get : ∀ {xs : List V} {us : List Value} {i : Nat} {x : V}, Vals xs us → xs[i]? = some x → ∃ u, us[i]? = some u ∧ RelV x u
  | _, _, _, _, .nil, e => by simp at e
  | _, _, 0, _, .cons r _, e => by simp at e; subst e; exact ⟨_, rfl, r⟩
  | _, _, i + 1, x, .cons _ t, e => by
    obtain ⟨u, h1, h2⟩ := Vals.get (i := i) (x := x) t (by simpa using e)
    exact ⟨u, by simpa using h1, h2⟩
theorem Vals.set {x : V} {u : Value} (r : RelV x u) : ∀ {xs : List V} {us : List Value} (i : Nat), Vals xs us → Vals (xs.set i x) (us.set i u)
  | _, _, _, .nil => .nil
  | _, _, 0, .cons _ t => .cons r t
  | _, _, i + 1, .cons q t => .cons q (Vals.set r i t)
theorem Vals.append : ∀ {xs ys : List V} {us ws : List Value}, Vals xs us → Vals ys ws → Vals (xs ++ ys) (us ++ ws)
  | _, _, _, _, .nil, s => s
  | _, _, _, _, .cons r t, s => .cons r (Vals.append t s)
theorem Vals.take : ∀ {xs : List V} {us : List Value} (n : Nat), Vals xs us → Vals (xs.take n) (us.take n)
  | _, _, 0, _ => .nil
  | _, _, _ + 1, .nil => .nil
  | _, _, n + 1, .cons r t => .cons r (Vals.take n t)
theorem Vals.drop : ∀ {xs : List V} {us : List Value} (n : Nat), Vals xs us → Vals (xs.drop n) (us.drop n)
  | _, _, 0, r => r
  | _, _, _ + 1, .nil => .nil
  | _, _, n + 1, .cons _ t => Vals.drop n t
theorem Vals.none_of : ∀ {xs : List V} {us : List Value} {i : Nat}, Vals xs us → xs[i]? = none → us[i]? = none := fun {xs us i} r e => by
  have h1 := r.length
  have h2 : xs.length ≤ i := List.getElem?_eq_none_iff.mp e
  exact List.getElem?_eq_none_iff.mpr (by omega)

def RelO : Option V → Option Value → Prop
  | some v, some u => RelV v u
  | none, none => True
  | _, _ => False
def KV {κ : Type} : List (κ × V) → List (κ × Value) → Prop := Paired fun (p : κ × V) (q : κ × Value) => p.1 = q.1 ∧ RelV p.2 q.2

/-- a key of a dict (00_mix): an int or a text -/
def kV : Key → V
  | .inl i => .int i
  | .inr x => .str x

/-- what stands at a tracked address -/
inductive HO where
  /-- a list -/
  | lst (xs : List V)
  /-- a tuple (never changes) -/
  | tup (xs : List V)
  /-- a dict whose keys are ints and texts; one whose keys are tuples of ints and texts (the empty one is both) -/
  | dK (kvs : List (Key × V)) | dT (kvs : List (List Key × V))
  /-- a set of ints: its members, its size -/
  | set (S : Int → Bool) (n : Nat)
  /-- an instance of the class at C, its dict at dx, its attributes -/
  | ins (C dx : Addr) (fs : List (Str × V))
  /-- the dict of the instance at x -/
  | own (x : Addr)
  /-- the dict of an exception -/
  | xd (fs : List (Str × V))
  /-- a bound method, f of x -/
  | met (f x : Addr)
  /-- a range object lo, lo + 1, .. below hi -/
  | rng (lo hi : Int)
  /-- a thing that is known to the object (the script; a dict while a loop walks it): read, never written while it is so -/
  | frz (o : Obj) (u : HO)
  /-- a code object's table -/
  | tbl (ps : Array Value)
  /-- any other thing, by what is true of its one object (a def of one's own: SetO a S n := HO.ext fun h => ..) -/
  | ext (φ : Heap → Prop)

abbrev Hp := Addr → Option HO
def upd (H : Hp) (a : Addr) (o : HO) : Hp := fun b => if b = a then some o else H b
theorem upd_same {H : Hp} {a : Addr} {o : HO} : upd H a o a = some o := by unfold upd; rw [if_pos rfl]
theorem upd_ne {H : Hp} {a b : Addr} {o : HO} (h : b ≠ a) : upd H a o b = H b := by unfold upd; rw [if_neg h]
/-- two objects of different content stand apart -/
theorem ne_of {H : Hp} {a b : Addr} {o u : HO} (h : H a = some o) (h' : H b = some u) (d : o ≠ u) : a ≠ b := by
  intro e; subst e; rw [h] at h'; exact d (Option.some.inj h')
theorem ne_of_none {H : Hp} {a b : Addr} {o : HO} (h : H a = some o) (h' : H b = none) : a ≠ b := by
  intro e; subst e; rw [h] at h'; cases h'

section
variable (P : Program) (w : World)
def ObjOk (H : Hp) (h : Heap) (a : Addr) : HO → Prop
  | .lst xs => xs.length ≤ sizeLine ∧ ∃ (its : List Value) (n : Nat), Vals xs its ∧ h.get? a = some { cls := .type "list", data := .seq its.toArray n }
  | .tup xs => xs.length ≤ sizeLine ∧ ∃ its : List Value, Vals xs its ∧ IsTup h a its.toArray
  | .dK kvs => kvs.length ≤ sizeLine ∧ (a == sysModules) = false ∧ ∃ vs, KV kvs vs ∧ h.DictOf (mixKind P w) a vs
  | .dT kvs => kvs.length ≤ sizeLine ∧ (a == sysModules) = false ∧ ∃ xs : List (List Key × Addr × Value),
      Paired (fun (p : List Key × V) (q : List Key × Addr × Value) => p.1 = q.1 ∧ H q.2.1 = some (.tup (p.1.map kV)) ∧ RelV p.2 q.2.2) kvs xs ∧
      ∃ o es ep, h.get? a = some o ∧ o.ExactDict ∧ o.data = .dict es ep ∧ es.toList = xs.map (entryOfKey (tupleKind (mixKind P w))) ∧ (xs.map (·.1)).Nodup
  | .set S n => h.SetOf (intKind P w) a S n
  | .ins C dx fs => H dx = some (.own a) ∧ fs.length ≤ 1000 ∧ dx ≠ a ∧ h.get? a = some (PySem.W.instObj C dx) ∧
      ∃ mA, h.Ns1 dx mA ∧ (∀ f, RelO (fs.lookup f) (mA f)) ∧ PySem.Within mA (fs.map (·.1))
  | .own _ => ∃ o, h.get? a = some o
  | .xd fs => ∃ mA, h.Ns1 a mA ∧ ∀ f, RelO (fs.lookup f) (mA f)
  | .rng lo hi => ∃ t u v, h.get? a = some { cls := .type "range", data := .fields #[.int lo t, .int hi u, .int 1 v] }
  | .frz o u => h.get? a = some o ∧ ObjOk H h a u
  | .tbl ps => h.get? a = some { cls := .none, data := .fields ps }
  | .met f x => h.get? a = some (PySem.W.methodObj (.ref f) (.ref x))
  | .ext φ => φ h ∧ (∃ o, h.get? a = some o) ∧ ∀ h1 h2 : Heap, φ h1 → (∀ o, h1.get? a = some o → h2.get? a = some o) → φ h2
/-- the abstract heap is held -/
def HOk (H : Hp) (h : Heap) : Prop := ∀ a o, H a = some o → ObjOk P w H h a o
end

section
variable {P : Program} {w : World} {H H' : Hp} {h h' : Heap} {a : Addr} {o : HO}
theorem ObjOk.lt (x : ObjOk P w H h a o) : a < h.objs.size := by
  cases o with
  | lst xs => obtain ⟨_, _, _, _, e⟩ := x; exact Heap.lt_size e
  | tup xs => obtain ⟨_, _, _, p⟩ := x; exact p.lt
  | dK kvs => obtain ⟨_, _, _, _, o, _, _, e, _⟩ := x; exact Heap.lt_size e
  | dT kvs => obtain ⟨_, _, _, _, o, _, _, e, _⟩ := x; exact Heap.lt_size e
  | set S n => obtain ⟨o, _, _, _, e, _⟩ := x; exact Heap.lt_size e
  | ins C dx fs => obtain ⟨_, _, _, e, _⟩ := x; exact Heap.lt_size e
  | own y => obtain ⟨_, e⟩ := x; exact Heap.lt_size e
  | xd fs => obtain ⟨_, ⟨_, _, _, e, _⟩, _⟩ := x; exact Heap.lt_size e
  | rng lo hi => obtain ⟨_, _, _, e⟩ := x; exact Heap.lt_size e
  | frz ob u => obtain ⟨e, _⟩ := x; exact Heap.lt_size e
  | tbl ps => exact Heap.lt_size (show h.get? a = some _ from x)
  | met f y => exact Heap.lt_size (show h.get? a = some _ from x)
  | ext φ => obtain ⟨_, ⟨_, e⟩, _⟩ := x; exact Heap.lt_size e
theorem Paired.mapP {α β : Type} {F G : α → β → Prop} : ∀ {l₁ : List α} {l₂ : List β}, Paired F l₁ l₂ → (∀ a b, F a b → G a b) → Paired G l₁ l₂
  | _, _, .nil, _ => .nil
  | _, _, .cons r t, f => .cons (f _ _ r) (Paired.mapP t f)
/-- what an object's description leans on: its own object, its own dict, the tuples -/
theorem ObjOk.stay (x : ObjOk P w H h a o) (k : ∀ b u, (b = a ∨ H b = some (.own a)) → h.get? b = some u → h'.get? b = some u)
    (ho : ∀ b, H b = some (.own a) → H' b = some (.own a)) (ht : ∀ b xs, H b = some (.tup xs) → H' b = some (.tup xs)) : ObjOk P w H' h' a o := by
  induction o with
  | lst xs => obtain ⟨z, its, n, r, e⟩ := x; exact ⟨z, its, n, r, k _ _ (.inl rfl) e⟩
  | tup xs => obtain ⟨z, its, r, ob, e, c⟩ := x; exact ⟨z, its, r, ob, k _ _ (.inl rfl) e, c⟩
  | dK kvs => obtain ⟨z, y, vs, r, ob, es, ep, e, c⟩ := x; exact ⟨z, y, vs, r, ob, es, ep, k _ _ (.inl rfl) e, c⟩
  | dT kvs =>
    obtain ⟨z, y, xs, r, ob, es, ep, e, c⟩ := x
    exact ⟨z, y, xs, Paired.mapP r fun p q z => ⟨z.1, ht _ _ z.2.1, z.2.2⟩, ob, es, ep, k _ _ (.inl rfl) e, c⟩
  | set S n => obtain ⟨ob, es, ep, t, e, c⟩ := x; exact ⟨ob, es, ep, t, k _ _ (.inl rfl) e, c⟩
  | ins C dx fs =>
    obtain ⟨d, z, ne, e, mA, ⟨od, es, ep, e2, c⟩, r⟩ := x
    exact ⟨ho _ d, z, ne, k _ _ (.inl rfl) e, mA, ⟨od, es, ep, k _ _ (.inr d) e2, c⟩, r⟩
  | own y => obtain ⟨ob, e⟩ := x; exact ⟨ob, k _ _ (.inl rfl) e⟩
  | xd fs => obtain ⟨mA, ⟨od, es, ep, e, c⟩, r⟩ := x; exact ⟨mA, ⟨od, es, ep, k _ _ (.inl rfl) e, c⟩, r⟩
  | rng lo hi => obtain ⟨t, u, v, e⟩ := x; exact ⟨t, u, v, k _ _ (.inl rfl) e⟩
  | frz ob u ih => obtain ⟨e, q⟩ := x; exact ⟨k _ _ (.inl rfl) e, ih q⟩
  | tbl ps =>
    have e : h.get? a = some { cls := .none, data := .fields ps } := x
    show h'.get? a = some { cls := .none, data := .fields ps }
    exact k a _ (.inl rfl) e
  | met f y =>
    have e : h.get? a = some (PySem.W.methodObj (.ref f) (.ref y)) := x
    show h'.get? a = some (PySem.W.methodObj (.ref f) (.ref y))
    exact k a _ (.inl rfl) e
  | ext φ => obtain ⟨p, ⟨o, e⟩, st⟩ := x; exact ⟨st _ _ p fun o q => k _ _ (.inl rfl) q, ⟨o, k _ _ (.inl rfl) e⟩, st⟩
theorem HOk.lt (x : HOk P w H h) (e : H a = some o) : a < h.objs.size := (x a o e).lt
theorem HOk.fresh (x : HOk P w H h) (e : h.objs.size ≤ a) : H a = none := by
  cases q : H a with
  | none => rfl
  | some u => exact absurd (Nat.lt_of_lt_of_le (x.lt q) e) (Nat.lt_irrefl _)
/-- every object of the heap is kept -/
theorem HOk.kept (x : HOk P w H h) (k : ∀ b u, h.get? b = some u → h'.get? b = some u) : HOk P w H h' := fun a o e =>
  (x a o e).stay (fun b u _ q => k b u q) (fun _ q => q) fun _ _ q => q
/-- a new object is laid and tracked -/
theorem HOk.laid (x : HOk P w H h) (k : ∀ b u, h.get? b = some u → h'.get? b = some u) (hp : h.objs.size ≤ a) (new : ObjOk P w (upd H a o) h' a o) : HOk P w (upd H a o) h' := fun b u e => by
  have hn := x.fresh hp
  by_cases hb : b = a
  · subst hb; rw [upd_same] at e; cases e; exact new
  · rw [upd_ne hb] at e
    exact (x b u e).stay (fun c v _ q => k c v q) (fun c q => by rw [upd_ne (ne_of_none q hn)]; exact q) fun c xs q => by rw [upd_ne (ne_of_none q hn)]; exact q
end

/-- what may be read as u: it is u, or a known u -/
def Rd (H : Hp) (a : Addr) (u : HO) : Prop := H a = some u ∨ ∃ o, H a = some (.frz o u)
theorem Rd.of {H : Hp} {a : Addr} {u : HO} (h : H a = some u) : Rd H a u := .inl h
theorem Rd.ok {P : Program} {w : World} {H : Hp} {h : Heap} {a : Addr} {u : HO} (r : Rd H a u) (x : HOk P w H h) : ObjOk P w H h a u := by
  rcases r with r | ⟨o, r⟩
  · exact x a u r
  · obtain ⟨_, q⟩ := x a _ r
    exact q
/-- what may be written -/
def Mut : Option HO → Prop
  | some (.lst _) => True
  | some (.dK _) => True
  | some (.dT _) => True
  | some (.set _ _) => True
  | some (.ins _ _ _) => True
  | some (.ext _) => True
  | _ => False
section
variable {P : Program} {w : World} {H : Hp} {h h' : Heap} {x e : Addr} {o' : HO}
/-- the object at e is changed: x itself, or the dict of the instance x -/
theorem HOk.write (ok : HOk P w H h) (mu : Mut (H x)) (he : e = x ∨ H e = some (.own x)) (k : ∀ b u, b ≠ e → h.get? b = some u → h'.get? b = some u) (heo : ∃ u, h'.get? e = some u)
    (new : ObjOk P w (upd H x o') h' x o') : HOk P w (upd H x o') h' := fun b u q => by
  have nown : ∀ c y, H c = some (.own y) → c ≠ x := fun c y r z => by subst z; rw [r] at mu; exact mu
  have ntup : ∀ c xs, H c = some (.tup xs) → c ≠ x := fun c xs r z => by subst z; rw [r] at mu; exact mu
  by_cases hb : b = x
  · subst hb; rw [upd_same] at q; cases q; exact new
  · rw [upd_ne hb] at q
    by_cases hbe : b = e
    · have q' : H b = some (.own x) := by
        rcases he with z | z
        · exact absurd (hbe.trans z) hb
        · rw [hbe]; exact z
      rw [q] at q'; cases q'
      obtain ⟨v, hv⟩ := heo
      exact ⟨v, by rw [hbe]; exact hv⟩
    · refine (ok b u q).stay (fun c v hc r => k c v ?_ r) (fun c r => by rw [upd_ne (nown c b r)]; exact r) fun c xs r => by rw [upd_ne (ntup c xs r)]; exact r
      rcases hc with rfl | hc
      · exact hbe
      · rintro rfl
        rcases he with z | z
        · exact nown c b hc z
        · rw [hc] at z; cases z; exact hb rfl
end

/-! ### kept unless tracked; of the frames at fs (the callers') the slots may change (an exception that passes writes there); of the records at ex (iterators) nothing is said -/
structure Un (fs ex : List Addr) (H H' : Hp) (h h' : Heap) : Prop where
  keep : ∀ b o, h.get? b = some o → H b = none → b ∉ fs → b ∉ ex → h'.get? b = some o
  slot : ∀ b o, h.get? b = some o → H b = none → b ∈ fs → b ∉ ex → ∃ sl, h'.get? b = some { o with slots := sl }
  free : ∀ b o, h.get? b = some o → H b = none → b ∉ ex → H' b = none
  there : ∀ b o, h.get? b = some o → b ∉ ex → ∃ o', h'.get? b = some o'
  tups : ∀ b xs, H b = some (.tup xs) → H' b = some (.tup xs)
  frzs : ∀ b o u, H b = some (.frz o u) → H' b = some (.frz o u)
  tbls : ∀ b ps, H b = some (.tbl ps) → ∃ more, H' b = some (.tbl (ps ++ more))
section
variable {fs fs' ex ex' : List Addr} {H H1 H2 : Hp} {h h1 h2 h' : Heap} {a x e : Addr} {o : HO}
theorem Un.any (u : Un fs ex H H1 h h1) {b : Addr} {ob : Obj} (q : h.get? b = some ob) (n : H b = none) (hx : b ∉ ex) : ∃ sl, h1.get? b = some { ob with slots := sl } := by
  by_cases hb : b ∈ fs
  · exact u.slot b ob q n hb hx
  · exact ⟨ob.slots, u.keep b ob q n hb hx⟩
theorem Un.trans (a : Un fs ex H H1 h h1) (b : Un fs ex H1 H2 h1 h2) : Un fs ex H H2 h h2 where
  keep := fun c ob q n hc hx => b.keep c ob (a.keep c ob q n hc hx) (a.free c ob q n hx) hc hx
  slot := fun c ob q n hc hx => by
    obtain ⟨sl, e1⟩ := a.slot c ob q n hc hx
    obtain ⟨sl', e2⟩ := b.slot c _ e1 (a.free c ob q n hx) hc hx
    exact ⟨sl', e2⟩
  free := fun c ob q n hx => by
    obtain ⟨o', e1⟩ := a.there c ob q hx
    exact b.free c o' e1 (a.free c ob q n hx) hx
  there := fun c ob q hx => by
    obtain ⟨o', e1⟩ := a.there c ob q hx
    exact b.there c o' e1 hx
  tups := fun c xs q => b.tups c xs (a.tups c xs q)
  frzs := fun c ob xs q => b.frzs c ob xs (a.frzs c ob xs q)
  tbls := fun c ps q => by
    obtain ⟨m1, e1⟩ := a.tbls c ps q
    obtain ⟨m2, e2⟩ := b.tbls c _ e1
    exact ⟨m1 ++ m2, by rw [e2, Array.append_assoc]⟩
theorem Un.kept (k : ∀ b u, h.get? b = some u → h'.get? b = some u) : Un fs ex H H h h' :=
  ⟨fun b ob q _ _ _ => k b ob q, fun b ob q _ _ _ => ⟨ob.slots, k b ob q⟩, fun _ _ _ n _ => n, fun b ob q _ => ⟨ob, k b ob q⟩, fun _ _ q => q, fun _ _ _ q => q, fun _ ps q => ⟨#[], by rw [q]; simp⟩⟩
theorem Un.refl : Un fs ex H H h h := Un.kept fun _ _ q => q
theorem Un.laid (k : ∀ b u, h.get? b = some u → h'.get? b = some u) (hp : h.objs.size ≤ a) (hn : H a = none) : Un fs ex H (upd H a o) h h' where
  keep := fun b u q _ _ _ => k b u q
  slot := fun b u q _ _ _ => ⟨u.slots, k b u q⟩
  free := fun b u q n _ => by rw [upd_ne (Nat.ne_of_lt (Nat.lt_of_lt_of_le (Heap.lt_size q) hp))]; exact n
  there := fun b u q _ => ⟨u, k b u q⟩
  tups := fun b xs q => by rw [upd_ne (ne_of_none q hn)]; exact q
  frzs := fun b u xs q => by rw [upd_ne (ne_of_none q hn)]; exact q
  tbls := fun b ps q => ⟨#[], by rw [upd_ne (ne_of_none q hn), q]; simp⟩
theorem Un.write (mu : Mut (H x)) (he : e = x ∨ H e = some (.own x)) (k : ∀ b u, b ≠ e → h.get? b = some u → h'.get? b = some u) (heo : ∃ u, h'.get? e = some u) : Un fs ex H (upd H x o) h h' := by
  have hx : ∀ b, H b = none → b ≠ x := fun b n z => by subst z; rw [n] at mu; exact mu
  have hb : ∀ b, H b = none → b ≠ e := fun b n z => by
    subst z
    rcases he with r | r
    · exact hx b n r
    · rw [n] at r; cases r
  have hm : ∀ b u, H b = some u → ¬ Mut (some u) → b ≠ x := fun b u q nm z => by subst z; rw [q] at mu; exact nm mu
  refine ⟨fun b u q n _ _ => k b u (hb b n) q, fun b u q n _ _ => ⟨u.slots, k b u (hb b n) q⟩, fun b u q n _ => by rw [upd_ne (hx b n)]; exact n, fun b u q _ => ?_,
    fun b xs q => by rw [upd_ne (hm b _ q fun z => z)]; exact q, fun b u xs q => by rw [upd_ne (hm b _ q fun z => z)]; exact q, fun b ps q => ⟨#[], by rw [upd_ne (hm b _ q fun z => z), q]; simp⟩⟩
  by_cases hbe : b = e
  · subst hbe; exact heo
  · exact ⟨u, k b u hbe q⟩
theorem Un.mono (u : Un fs ex H H1 h h1) (hs : ∀ b ∈ fs, b ∈ fs') (hx : ∀ b ∈ ex, b ∈ ex') : Un fs' ex' H H1 h h1 :=
  ⟨fun b ob q n hb he => u.keep b ob q n (fun z => hb (hs b z)) fun z => he (hx b z), fun _ _ q n _ he => u.any q n fun z => he (hx _ z), fun b ob q n he => u.free b ob q n fun z => he (hx b z), fun b ob q he => u.there b ob q fun z => he (hx b z), u.tups, u.frzs, u.tbls⟩
end

/-! ### the heap without what is tracked -/
def trk (h : Heap) (H : Hp) : List Addr := (List.range h.objs.size).filter fun a => (H a).isSome
def hidT (h : Heap) (H : Hp) : Heap := PySem.W.hideAll h (trk h H)
theorem hidT_size (h : Heap) (H : Hp) : (hidT h H).objs.size = h.objs.size := PySem.W.hideAll_size _ _
theorem hidT_get {h : Heap} {H : Hp} {b : Addr} {o : Obj} (e : h.get? b = some o) (n : H b = none) : (hidT h H).get? b = some o :=
  PySem.W.hideAll_get _ e fun hm => by
    have q : (H b).isSome = true := (List.mem_filter.mp hm).2
    rw [n] at q; simp at q
theorem of_hidT {h : Heap} {H : Hp} {b : Addr} {o : Obj} (e : (hidT h H).get? b = some o) : h.get? b = some o ∧ H b = none := by
  have e' : h.get? b = some o := PySem.W.of_hideAll (trk h H) e
  refine ⟨e', ?_⟩
  cases q : H b with
  | none => rfl
  | some x =>
    have hm : b ∈ trk h H := List.mem_filter.mpr ⟨List.mem_range.mpr (Heap.lt_size e'), by simp [q]⟩
    have z : (hidT h H).get? b = none := PySem.W.hideAll_none (trk h H) hm
    rw [z] at e; cases e

/-! ### OpenK's ledger, filled with every new object but one -/
def allNews (g h : Heap) (L : Addr) : List (Addr × Obj) := (List.range h.objs.size).filterMap fun a => if a = L ∨ (g.get? a).isSome = true then none else (h.get? a).map fun o => (a, o)
def rest (g h : Heap) (L d : Addr) : List (Addr × Obj) := (allNews g h L).filter fun p => decide (p.1 ≠ d)
end L2

namespace L2
open PySem PySem.Spec PyProof.Rows

/-- the module's facts, over the base: the heap at the law's entry without what is tracked there -/
structure Mod (K : PySem.W.Frag) (mg : Str → Option Value) (base : Heap) : Prop where
  kin : K.In base
  glob : base.Ns mainGlobals mg
  blt : ∃ mb, base.Ns builtinsNs mb ∧ ∀ x : Str, x ≠ "__name__" → mb x = bootBuiltins x
  nolimit : base.NoLimit

/-- the context: a def's body (or a comprehension's block) running. base: fixed through the whole law; s₀, H₀: the entry; outer: the frames whose slots others may change (a def's callers); stack: all frames that run;
   ex: iterators that were made ahead of the entry and are walked here (a comprehension's); fn: the names whose cells were made at the entry (a def: all; a comprehension's block: its own); calm: not within an except suite; pn: pins that every state bears; xe: what is wanted of an exception that leaves the code -/
structure Cx where
  prog : Program
  w : World
  K : PySem.W.Frag
  mg : Str → Option Value
  base : Heap
  A : Around
  N : List Str
  s₀ : Shared
  H₀ : Hp
  env : Env
  outer : List Env
  stack : List Env
  ex : List Addr
  fn : Str → Bool
  calm : Bool
  pn : List (Addr × Obj)
  xe : Value → Shared → Prop
/-- the callers' frames -/
def frs (l : List Env) : List Addr := l.filterMap (·.frame)
abbrev Cx.fs (X : Cx) : List Addr := frs X.outer

def Vis (sc : Scope) (x : Str) : Prop := sc.names.lookup x = some .local ∨ sc.names.lookup x = some .cell ∨ sc.names.lookup x = some .free
def Loc (sc : Scope) (x : Str) : Prop := sc.names.lookup x = some .local ∨ sc.names.lookup x = some .cell
def Look (env : Env) (h : Heap) (m : Str → Option Value) (x : Str) (u : Value) : Prop :=
  (env.kindOf x = some .local ∧ m x = some u) ∨ ((env.kindOf x = some .cell ∨ env.kindOf x = some .free) ∧ ∃ c, env.cells.lookup x = some c ∧ h.IsCell c (some u))

structure Cx.Ok (X : Cx) : Prop where
  mod : Mod X.K X.mg X.base
  kind : X.env.scope.kind = .function
  glob : X.env.globals = mainGlobals
  blt : X.env.builtins = builtinsNs
  above : X.s₀.heap.objs.size ≤ X.env.locals
  inj : ∀ x y c, X.env.cells.lookup x = some c → X.env.cells.lookup y = some c → x = y
  has : ∀ x, (X.env.kindOf x = some .cell ∨ X.env.kindOf x = some .free) → ∃ c, X.env.cells.lookup x = some c
  cab : ∀ x c, X.fn x = true → X.env.cells.lookup x = some c → X.s₀.heap.objs.size ≤ c
  hd : X.calm = true → X.A.handled = none
  frames : X.A.frames = some X.stack
  stk : X.stack = X.outer ∨ (X.stack = X.env :: X.outer ∧ X.env.frame = some X.env.locals)
  exf : ∀ b ∈ X.ex, b ≠ X.env.locals ∧ ∀ x c, X.env.cells.lookup x = some c → c ≠ b
  bs : ∀ b o, X.base.get? b = some o → X.s₀.heap.get? b = some o ∧ X.H₀ b = none
  bsz : X.base.objs.size ≤ X.s₀.heap.objs.size
  noex : ∀ b o, X.base.get? b = some o → b ∉ X.ex
  exfs : ∀ b ∈ X.ex, b ∉ X.fs
  funs : X.s₀.heap.FunFrames X.base X.outer
  frf : ∀ b ∈ X.fs, X.H₀ b = none

structure Inv (X : Cx) (pins : List (Addr × Obj)) (σ : List (Option V)) (H : Hp) (s : Shared) : Prop where
  ok : X.Ok
  os : s.os = X.s₀.os
  bare : AllBare s.gens
  base : Un X.fs X.ex X.H₀ H X.s₀.heap s.heap
  loc : ∃ m, s.heap.Ns X.env.locals m ∧ ∀ (i : Nat) (x : Str) (v : V), X.N[i]? = some x → σ[i]? = some (some v) → Vis X.env.scope x → ∃ u, RelV v u ∧ Look X.env s.heap m x u
  cell : ∀ x c, X.env.cells.lookup x = some c → ∃ v, s.heap.IsCell c v
  free : H X.env.locals = none
  freeC : ∀ x c, X.env.cells.lookup x = some c → H c = none
  pin : ∀ p ∈ X.pn ++ pins, s.heap.get? p.1 = some p.2 ∧ H p.1 = none ∧ p.1 ≠ X.env.locals ∧ p.1 ∉ X.fs ∧ ∀ v, p.2.data ≠ .cell v
  hok : HOk X.prog X.w H s.heap
  len : σ.length = X.N.length

section
variable {X : Cx} {pins : List (Addr × Obj)} {σ : List (Option V)} {H H' : Hp} {s : Shared} {h' : Heap}

theorem Cx.Ok.nofr (ok : X.Ok) {b : Addr} {o : Obj} (e : X.base.get? b = some o) : b ∉ X.fs := fun hb => by
  have := (ok.funs.mem hb).1
  rw [e] at this; cases this
theorem Inv.bs (I : Inv X pins σ H s) : ∀ b o, X.base.get? b = some o → s.heap.get? b = some o ∧ H b = none := fun b o e =>
  ⟨I.base.keep b o (I.ok.bs b o e).1 (I.ok.bs b o e).2 (I.ok.nofr e) (I.ok.noex b o e), I.base.free b o (I.ok.bs b o e).1 (I.ok.bs b o e).2 (I.ok.noex b o e)⟩
theorem Inv.bk (I : Inv X pins σ H s) : ∀ b o, X.base.get? b = some o → s.heap.get? b = some o := fun b o e => (I.bs b o e).1
theorem Inv.mod (I : Inv X pins σ H s) : Mod X.K X.mg X.base := I.ok.mod
theorem Inv.kIn (I : Inv X pins σ H s) : X.K.In s.heap := I.ok.mod.kin.keeps I.bk
theorem Inv.nolimit (I : Inv X pins σ H s) : s.heap.NoLimit := I.ok.mod.nolimit.keeps I.bk
/-- the frame over the base: for OpenK's rules (K.In X.base is I.mod.kin) -/
theorem Inv.fr (I : Inv X pins σ H s) : ∃ m, Fr X.base X.env.locals s.heap m :=
  let ⟨m, hn, _⟩ := I.loc
  ⟨m, hn, I.bk, Nat.le_trans I.ok.bsz I.ok.above⟩
theorem Inv.lt (I : Inv X pins σ H s) : X.env.locals < s.heap.objs.size := let ⟨_, hn, _⟩ := I.loc; hn.lt
theorem Inv.sz (I : Inv X pins σ H s) : X.s₀.heap.objs.size ≤ s.heap.objs.size := Nat.le_trans I.ok.above (Nat.le_of_lt I.lt)
theorem Inv.nofs (I : Inv X pins σ H s) {a : Addr} (h : s.heap.objs.size ≤ a) : a ∉ X.fs := fun hb => by
  obtain ⟨_, o, ho, _⟩ := I.ok.funs.mem hb
  exact absurd (Nat.lt_of_lt_of_le (Heap.lt_size ho) (Nat.le_trans I.sz h)) (Nat.lt_irrefl _)
theorem Inv.cne (I : Inv X pins σ H s) : ∀ x c, X.env.cells.lookup x = some c → c ≠ X.env.locals := fun x c e z => by
  obtain ⟨v, o, ho, hd⟩ := I.cell x c e
  obtain ⟨m, ⟨o', es, ep, ho', hd', _⟩, _⟩ := I.loc
  rw [z, ho'] at ho; cases ho; rw [hd'] at hd; cases hd
theorem Inv.funs (I : Inv X pins σ H s) : s.heap.FunFrames X.base X.outer := by
  have all : ∀ (l : List Env), (∀ b ∈ frs l, b ∈ X.fs) → X.s₀.heap.FunFrames X.base l → s.heap.FunFrames X.base l := by
    intro l
    induction l with
    | nil => intro _ _; trivial
    | cons env r ih =>
      intro hs hl
      obtain ⟨hk, ⟨L, o, hf, hn, ho, hd⟩, hr⟩ := hl
      have hL : L ∈ X.fs := hs L (by unfold frs; rw [List.filterMap_cons, hf]; exact List.mem_cons_self)
      obtain ⟨sl, e⟩ := I.base.slot L o ho (I.ok.frf L hL) hL fun z => I.ok.exfs L z hL
      exact ⟨hk, ⟨L, _, hf, hn, e, hd⟩, ih (fun b hb => hs b (by unfold frs; rw [List.filterMap_cons, hf]; exact List.mem_cons_of_mem _ hb)) hr⟩
  exact all X.outer (fun _ hb => hb) I.ok.funs

/-- the frames that run, for a call -/
theorem Inv.stack (I : Inv X pins σ H s) : s.heap.FunFrames X.base X.stack := by
  rcases I.ok.stk with e | ⟨e, hf⟩
  · rw [e]; exact I.funs
  · rw [e]
    obtain ⟨m, hn, _⟩ := I.loc
    refine .cons (by rw [I.ok.kind]; decide) hf hn ?_ I.funs
    exact Heap.get?_none_of_le (Nat.le_trans I.ok.bsz I.ok.above)
theorem Inv.stkSub (I : Inv X pins σ H s) : ∀ b ∈ frs X.stack, b ∈ X.env.locals :: X.fs := fun b hb => by
  rcases I.ok.stk with e | ⟨e, hf⟩
  · rw [e] at hb; exact List.mem_cons_of_mem _ hb
  · rw [e] at hb
    unfold frs at hb
    rw [List.filterMap_cons, hf] at hb
    exact hb
theorem Inv.stkFree (I : Inv X pins σ H s) : ∀ b ∈ frs X.stack, H b = none := fun b hb => by
  rcases List.mem_cons.mp (I.stkSub b hb) with e | hb
  · rw [e]; exact I.free
  · obtain ⟨_, o, ho, _⟩ := I.ok.funs.mem hb
    exact I.base.free b o ho (I.ok.frf b hb) fun z => I.ok.exfs b z hb

/-- THE STEP: the untracked objects but the frame and the records at ch are kept (the callers' frames up to slots), the frame's map is kept, the new abstract heap is held -/
theorem Inv.step {g' : Array GenState} {t' : Nat} {d' : Drawn} {ch : List Addr} (I : Inv X pins σ H s)
    (hch : ∀ b ∈ ch, (b ∈ X.ex ∨ X.s₀.heap.objs.size ≤ b) ∧ b ≠ X.env.locals ∧ (∀ x c, X.env.cells.lookup x = some c → c ≠ b) ∧ ∀ p ∈ X.pn ++ pins, p.1 ≠ b)
    (keep : ∀ b o, b ≠ X.env.locals → b ∉ X.fs → b ∉ ch → s.heap.get? b = some o → H b = none → h'.get? b = some o)
    (slot : ∀ b o, b ≠ X.env.locals → b ∈ X.fs → b ∉ ch → s.heap.get? b = some o → H b = none → ∃ sl, h'.get? b = some { o with slots := sl }) (free : ∀ b o, b ∉ ch → s.heap.get? b = some o → H b = none → H' b = none)
    (there : ∀ b o, b ∉ ch → s.heap.get? b = some o → ∃ o', h'.get? b = some o')
    (tups : ∀ b xs, H b = some (.tup xs) → H' b = some (.tup xs)) (frzs : ∀ b o u, H b = some (.frz o u) → H' b = some (.frz o u)) (tbls : ∀ b ps, H b = some (.tbl ps) → ∃ more, H' b = some (.tbl (ps ++ more)))
    (ns : ∀ m, s.heap.Ns X.env.locals m → h'.Ns X.env.locals m) (hok : HOk X.prog X.w H' h') (hg : AllBare g') :
    Inv X pins σ H' { s with heap := h', gens := g', drawn := d', toks := t' } := by
  have neL : ∀ b o, X.s₀.heap.get? b = some o → b ≠ X.env.locals := fun b o e => Nat.ne_of_lt (Nat.lt_of_lt_of_le (Heap.lt_size e) I.ok.above)
  have neC : ∀ b o, X.s₀.heap.get? b = some o → b ∉ X.ex → b ∉ ch := fun b o e hx hb => by
    rcases (hch b hb).1 with z | z
    · exact hx z
    · exact absurd (Nat.lt_of_lt_of_le (Heap.lt_size e) z) (Nat.lt_irrefl _)
  have cellK : ∀ x c, X.env.cells.lookup x = some c → ∀ v, s.heap.IsCell c v → h'.IsCell c v := fun x c e v ⟨o, ho, hd⟩ => by
    have nch : c ∉ ch := fun z => (hch c z).2.2.1 x c e rfl
    by_cases hc : c ∈ X.fs
    · obtain ⟨sl, q⟩ := slot c o (I.cne x c e) hc nch ho (I.freeC x c e)
      exact ⟨_, q, hd⟩
    · exact ⟨o, keep c o (I.cne x c e) hc nch ho (I.freeC x c e), hd⟩
  refine ⟨I.ok, I.os, hg, ⟨fun b o e n hb hx => ?_, fun b o e n hb hx => ?_, fun b o e n hx => ?_, fun b o e hx => ?_, fun b xs e => tups b xs (I.base.tups b xs e), fun b o xs e => frzs b o xs (I.base.frzs b o xs e), fun b ps e => ?_⟩, ?_, fun x c e => ?_, ?_, fun x c e => ?_, fun p hp => ?_, hok, I.len⟩
  · exact keep b o (neL b o e) hb (neC b o e hx) (I.base.keep b o e n hb hx) (I.base.free b o e n hx)
  · obtain ⟨sl, e1⟩ := I.base.slot b o e n hb hx
    obtain ⟨sl', e2⟩ := slot b _ (neL b o e) hb (neC b o e hx) e1 (I.base.free b o e n hx)
    exact ⟨sl', e2⟩
  · obtain ⟨o', e1⟩ := I.base.there b o e hx
    exact free b o' (neC b o e hx) e1 (I.base.free b o e n hx)
  · obtain ⟨o', e1⟩ := I.base.there b o e hx
    exact there b o' (neC b o e hx) e1
  · obtain ⟨m1, e1⟩ := I.base.tbls b ps e
    obtain ⟨m2, e2⟩ := tbls b _ e1
    exact ⟨m1 ++ m2, by rw [e2, Array.append_assoc]⟩
  · obtain ⟨m, hn, hl⟩ := I.loc
    refine ⟨m, ns m hn, fun i x v e1 e2 e3 => ?_⟩
    obtain ⟨u, r, l⟩ := hl i x v e1 e2 e3
    refine ⟨u, r, ?_⟩
    rcases l with l | ⟨k, c, e, z⟩
    · exact .inl l
    · exact .inr ⟨k, c, e, cellK x c e _ z⟩
  · obtain ⟨v, z⟩ := I.cell x c e
    exact ⟨v, cellK x c e v z⟩
  · obtain ⟨m, ⟨o, _, _, ho, _⟩, _⟩ := I.loc
    exact free _ o (fun z => (hch _ z).2.1 rfl) ho I.free
  · obtain ⟨v, o, ho, hd⟩ := I.cell x c e
    exact free c o (fun z => (hch c z).2.2.1 x c e rfl) ho (I.freeC x c e)
  · obtain ⟨e, n, ne, nf, d⟩ := I.pin p hp
    have nch : p.1 ∉ ch := fun z => (hch p.1 z).2.2.2 p hp rfl
    exact ⟨keep p.1 p.2 ne nf nch e n, free p.1 p.2 nch e n, ne, nf, d⟩
/-- .. where the frame's own object is kept too -/
theorem Inv.un {t' : Nat} (I : Inv X pins σ H s) (u : Un X.fs [] H H' s.heap h') (hok : HOk X.prog X.w H' h') : Inv X pins σ H' { s with heap := h', toks := t' } := by
  obtain ⟨m, ⟨o, es, ep, ho, r⟩, _⟩ := id I.loc
  obtain ⟨sl, hL⟩ := u.any ho I.free (by simp)
  exact I.step (g' := s.gens) (d' := s.drawn) (ch := []) (fun _ z => nomatch z) (fun b o _ hb _ e n => u.keep b o e n hb (by simp)) (fun b o _ hb _ e n => u.slot b o e n hb (by simp)) (fun b o _ e n => u.free b o e n (by simp)) (fun b o _ e => u.there b o e (by simp)) u.tups u.frzs u.tbls (fun m' hm => by
    obtain ⟨o', es', ep', ho', r'⟩ := hm
    rw [ho] at ho'; cases ho'
    exact ⟨_, es', ep', hL, r'⟩) hok I.bare
/-- behind a call (or a comprehension's block): the slots of this frame may have changed too, the records at ch may have turned -/
theorem Inv.call {g' : Array GenState} {t' : Nat} {d' : Drawn} {ch : List Addr} (I : Inv X pins σ H s) (u : Un (frs X.stack) ch H H' s.heap h') (hok : HOk X.prog X.w H' h') (hg : AllBare g')
    (hch : ∀ b ∈ ch, (b ∈ X.ex ∨ X.s₀.heap.objs.size ≤ b) ∧ b ≠ X.env.locals ∧ (∀ x c, X.env.cells.lookup x = some c → c ≠ b) ∧ ∀ p ∈ X.pn ++ pins, p.1 ≠ b) :
    Inv X pins σ H' { s with heap := h', gens := g', drawn := d', toks := t' } := by
  obtain ⟨m, ⟨o, es, ep, ho, r⟩, _⟩ := id I.loc
  obtain ⟨sl, hL⟩ := u.any ho I.free fun z => (hch _ z).2.1 rfl
  exact I.step (ch := ch) hch (fun b o hL hb hc e n => u.keep b o e n (fun z => (List.mem_cons.mp (I.stkSub b z)).elim hL hb) hc) (fun b o _ _ hc e n => u.any e n hc) (fun b o hc e n => u.free b o e n hc) (fun b o hc e => u.there b o e hc) u.tups u.frzs u.tbls (fun m' hm => by
    obtain ⟨o', es', ep', ho', r'⟩ := hm
    rw [ho] at ho'; cases ho'
    exact ⟨_, es', ep', hL, r'⟩) hok hg
/-- an untracked record of ours (an iterator) has turned -/
theorem Inv.turned {t' : Nat} {it : Addr} (I : Inv X pins σ H s) (k : ∀ b o, b ≠ it → s.heap.get? b = some o → h'.get? b = some o) (hn : H it = none) (hL : it ≠ X.env.locals)
    (h1 : it ∈ X.ex ∨ X.s₀.heap.objs.size ≤ it) (h2 : ∀ x c, X.env.cells.lookup x = some c → c ≠ it) (h3 : ∀ p ∈ X.pn ++ pins, p.1 ≠ it) : Inv X pins σ H { s with heap := h', toks := t' } := by
  have nit : ∀ b u, H b = some u → b ≠ it := fun b u e z => by rw [z, hn] at e; cases e
  refine I.step (g' := s.gens) (d' := s.drawn) (ch := [it]) (fun b hb => ?_) (fun b o _ _ hc e _ => k b o (fun z => hc (by simp [z])) e) (fun b o _ _ hc e _ => ⟨o.slots, k b o (fun z => hc (by simp [z])) e⟩) (fun _ _ _ _ n => n)
    (fun b o hc e => ⟨o, k b o (fun z => hc (by simp [z])) e⟩) (fun _ _ e => e) (fun _ _ _ e => e) (fun b ps e => ⟨#[], by rw [e]; simp⟩) (fun m hm => ?_) (fun b u e => ?_) I.bare
  · have e : b = it := by simpa using hb
    subst e
    exact ⟨h1, hL, h2, h3⟩
  · obtain ⟨o, es, ep, ho, r⟩ := hm
    exact ⟨o, es, ep, k _ o (Ne.symm hL) ho, r⟩
  · refine (I.hok b u e).stay (fun c v hc q => k c v ?_ q) (fun _ q => q) fun _ _ q => q
    rcases hc with z | z
    · rw [z]; exact nit b u e
    · exact nit c _ z
theorem Inv.tok (I : Inv X pins σ H s) (t : Nat) : Inv X pins σ H { s with toks := t } := I.un (h' := s.heap) (t' := t) Un.refl I.hok
/-- all objects kept -/
theorem Inv.kept {t' : Nat} (I : Inv X pins σ H s) (k : ∀ b u, s.heap.get? b = some u → h'.get? b = some u) : Inv X pins σ H { s with heap := h', toks := t' } := I.un (Un.kept k) (I.hok.kept k)
/-- a new object laid and tracked -/
theorem Inv.laid {a : Addr} {o : HO} {t' : Nat} (I : Inv X pins σ H s) (k : ∀ b u, s.heap.get? b = some u → h'.get? b = some u) (hp : s.heap.objs.size ≤ a) (new : ObjOk X.prog X.w (upd H a o) h' a o) :
    Inv X pins σ (upd H a o) { s with heap := h', toks := t' } := I.un (Un.laid k hp (I.hok.fresh hp)) (I.hok.laid k hp new)
/-- an object written -/
theorem Inv.write {x e : Addr} {o : HO} {t' : Nat} (I : Inv X pins σ H s) (mu : Mut (H x)) (he : e = x ∨ H e = some (.own x)) (k : ∀ b u, b ≠ e → s.heap.get? b = some u → h'.get? b = some u) (heo : ∃ u, h'.get? e = some u)
    (new : ObjOk X.prog X.w (upd H x o) h' x o) : Inv X pins σ (upd H x o) { s with heap := h', toks := t' } := I.un (Un.write mu he k heo) (I.hok.write mu he k heo new)
theorem Inv.pins_of {pins' : List (Addr × Obj)} (I : Inv X pins σ H s) (h : ∀ p ∈ pins', s.heap.get? p.1 = some p.2 ∧ H p.1 = none ∧ p.1 ≠ X.env.locals ∧ p.1 ∉ X.fs ∧ ∀ v, p.2.data ≠ .cell v) : Inv X pins' σ H s :=
  ⟨I.ok, I.os, I.bare, I.base, I.loc, I.cell, I.free, I.freeC, fun p hp => (List.mem_append.mp hp).elim (fun z => I.pin p (List.mem_append_left _ z)) (h p), I.hok, I.len⟩

theorem nodup_ix {N : List Str} (hN : N.Nodup) {i j : Nat} {x : Str} (a : N[i]? = some x) (b : N[j]? = some x) : i = j := by
  obtain ⟨h1, e1⟩ := List.getElem?_eq_some_iff.mp a
  obtain ⟨h2, e2⟩ := List.getElem?_eq_some_iff.mp b
  exact (List.getElem_inj hN).mp (e1.trans e2.symm)

/-- a name is stored; what changed -/
theorem store_ok2 {M : Model} {A : Around} {E : Value → Shared → Prop} {i : Nat} {x : Str} {v : V} {u : Value} {Q : Unit → Shared → Prop} (I : Inv X pins σ H s) (hN : X.N.Nodup) (hi : X.N[i]? = some x) (hx : Loc X.env.scope x) (r : RelV v u)
    (h : ∀ s', Inv X pins (σ.set i (some v)) H s' → (∃ a, Heap.SameBut a s.heap s'.heap ∧ (a = X.env.locals ∨ X.env.cells.lookup x = some a)) → Q () s') (hf : X.fn x = true ∨ X.env.scope.names.lookup x = some .local := by first | exact .inl rfl | exact .inr rfl | assumption) : wpAny M A (storeName X.env x u) Q E s := by
  obtain ⟨m, hn, hl⟩ := id I.loc
  have hcls : (X.env.scope.kind == .class || (X.env.scope.kind == .module && X.env.locals != X.env.globals)) = false := by rw [I.ok.kind]; rfl
  have hiσ : i < σ.length := by rw [I.len]; exact (List.getElem?_eq_some_iff.mp hi).1
  have cne := I.cne
  have tracked : ∀ {a : Addr} {h' : Heap}, (∃ o, s.heap.get? a = some o ∧ H a = none) → Heap.SameBut a s.heap h' → HOk X.prog X.w H h' := fun {a h'} ha hs b ob e => by
    obtain ⟨_, _, hfree⟩ := ha
    refine (I.hok b ob e).stay (fun c w' hc q => (hs.2 c ?_).trans q) (fun _ q => q) fun _ _ q => q
    rintro rfl
    rcases hc with rfl | hc
    · rw [hfree] at e; cases e
    · rw [hfree] at hc; cases hc
  rcases hx with hk | hk
  · refine wpAny_storeName_local hk hn (fun h' hn' hs => ?_) hcls
    obtain ⟨oL, _, _, hoL, _⟩ := id hn
    refine h _ ⟨I.ok, I.os, I.bare, ⟨fun b o e n hb hx => ?_, fun b o e n hb hx => ?_, I.base.free, fun b o e hx => ?_, I.base.tups, I.base.frzs, I.base.tbls⟩, ⟨_, hn', fun j y v' e1 e2 e3 => ?_⟩, fun y c e => ?_, I.free, I.freeC, fun p hp => ?_, tracked ⟨oL, hoL, I.free⟩ hs, by simpa using I.len⟩ ⟨_, hs, .inl rfl⟩
    · exact (hs.2 b (Nat.ne_of_lt (Nat.lt_of_lt_of_le (Heap.lt_size e) I.ok.above))).trans (I.base.keep b o e n hb hx)
    · obtain ⟨sl, e1⟩ := I.base.slot b o e n hb hx
      exact ⟨sl, (hs.2 b (Nat.ne_of_lt (Nat.lt_of_lt_of_le (Heap.lt_size e) I.ok.above))).trans e1⟩
    · obtain ⟨o', e1⟩ := I.base.there b o e hx
      exact ⟨o', (hs.2 b (Nat.ne_of_lt (Nat.lt_of_lt_of_le (Heap.lt_size e) I.ok.above))).trans e1⟩
    · by_cases hj : j = i
      · subst hj
        rw [hi] at e1; cases e1
        rw [List.getElem?_set_self hiσ] at e2
        cases e2
        exact ⟨u, r, .inl ⟨hk, by simp⟩⟩
      · rw [List.getElem?_set_ne (Ne.symm hj)] at e2
        obtain ⟨u', r', q⟩ := hl j y v' e1 e2 e3
        refine ⟨u', r', ?_⟩
        rcases q with ⟨k, e⟩ | ⟨k, c, e, z⟩
        · refine .inl ⟨k, ?_⟩
          have : y ≠ x := fun e => hj (nodup_ix hN e1 (e ▸ hi))
          simp [this, e]
        · exact .inr ⟨k, c, e, z.sameBut hs (cne y c e)⟩
    · obtain ⟨w', z⟩ := I.cell y c e
      exact ⟨w', z.sameBut hs (cne y c e)⟩
    · obtain ⟨e, n, ne, nf, d⟩ := I.pin p hp
      exact ⟨(hs.2 p.1 ne).trans e, n, ne, nf, d⟩
  · have hfn : X.fn x = true := by
      rcases hf with z | z
      · exact z
      · rw [z] at hk; cases hk
    obtain ⟨c, hc⟩ := I.ok.has x (.inl hk)
    obtain ⟨w', z⟩ := I.cell x c hc
    refine wpAny_storeName_cell I.ok.kind hk hc z (fun h' hc' hs => ?_)
    obtain ⟨oc, hoc, hocd⟩ := id z
    refine h { s with heap := h' } ⟨I.ok, I.os, I.bare, ⟨fun b o e n hb hx => ?_, fun b o e n hb hx => ?_, I.base.free, fun b o e hx => ?_, I.base.tups, I.base.frzs, I.base.tbls⟩, ⟨m, hn.sameBut hs (Ne.symm (cne x c hc)), fun j y v' e1 e2 e3 => ?_⟩, fun y c' e => ?_, I.free, I.freeC, fun p hp => ?_, tracked ⟨oc, hoc, I.freeC x c hc⟩ hs, by simpa using I.len⟩ ⟨c, hs, .inr hc⟩
    · exact (hs.2 b (Nat.ne_of_lt (Nat.lt_of_lt_of_le (Heap.lt_size e) (I.ok.cab x c hfn hc)))).trans (I.base.keep b o e n hb hx)
    · obtain ⟨sl, e1⟩ := I.base.slot b o e n hb hx
      exact ⟨sl, (hs.2 b (Nat.ne_of_lt (Nat.lt_of_lt_of_le (Heap.lt_size e) (I.ok.cab x c hfn hc)))).trans e1⟩
    · obtain ⟨o', e1⟩ := I.base.there b o e hx
      exact ⟨o', (hs.2 b (Nat.ne_of_lt (Nat.lt_of_lt_of_le (Heap.lt_size e) (I.ok.cab x c hfn hc)))).trans e1⟩
    · by_cases hj : j = i
      · subst hj
        rw [hi] at e1; cases e1
        rw [List.getElem?_set_self hiσ] at e2
        cases e2
        exact ⟨u, r, .inr ⟨.inl hk, c, hc, hc'⟩⟩
      · rw [List.getElem?_set_ne (Ne.symm hj)] at e2
        obtain ⟨u', r', q⟩ := hl j y v' e1 e2 e3
        refine ⟨u', r', ?_⟩
        rcases q with q | ⟨k, c', e, z'⟩
        · exact .inl q
        · refine .inr ⟨k, c', e, z'.sameBut hs ?_⟩
          rintro rfl
          exact hj (nodup_ix hN e1 (I.ok.inj _ _ _ e hc ▸ hi))
    · by_cases hcc : c' = c
      · subst hcc; exact ⟨_, hc'⟩
      · obtain ⟨w2, z2⟩ := I.cell y c' e
        exact ⟨w2, z2.sameBut hs hcc⟩
    · obtain ⟨e, n, ne, nf, d⟩ := I.pin p hp
      refine ⟨(hs.2 p.1 ?_).trans e, n, ne, nf, d⟩
      intro q
      rw [q, hoc] at e
      have q' : oc = p.2 := Option.some.inj e
      exact d w' (by rw [← q']; exact hocd)
theorem store_ok {M : Model} {A : Around} {E : Value → Shared → Prop} {i : Nat} {x : Str} {v : V} {u : Value} {Q : Unit → Shared → Prop} (I : Inv X pins σ H s) (hN : X.N.Nodup) (hi : X.N[i]? = some x) (hx : Loc X.env.scope x) (r : RelV v u)
    (h : ∀ s', Inv X pins (σ.set i (some v)) H s' → Q () s') (hf : X.fn x = true ∨ X.env.scope.names.lookup x = some .local := by first | exact .inl rfl | exact .inr rfl | assumption) : wpAny M A (storeName X.env x u) Q E s :=
  store_ok2 I hN hi hx r (fun s' I' _ => h s' I') hf
/-- behind a call or a block, the state as it is -/
theorem Inv.call' {s' : Shared} {ch : List Addr} (I : Inv X pins σ H s) (ho : s'.os = s.os) (u : Un (frs X.stack) ch H H' s.heap s'.heap) (hok : HOk X.prog X.w H' s'.heap) (hg : AllBare s'.gens)
    (hch : ∀ b ∈ ch, (b ∈ X.ex ∨ X.s₀.heap.objs.size ≤ b) ∧ b ≠ X.env.locals ∧ (∀ x c, X.env.cells.lookup x = some c → c ≠ b) ∧ ∀ p ∈ X.pn ++ pins, p.1 ≠ b) : Inv X pins σ H' s' := by
  obtain ⟨h', g', d', t', o'⟩ := s'
  have e : o' = s.os := ho
  subst e
  exact I.call (g' := g') (t' := t') (d' := d') u hok hg hch
end

/-! ### the judgements -/
/-- an exception: its class, its own dict's address (where it has one), the abstract heap behind it -/
abbrev XK := Value → Option Addr → Hp → Prop
abbrev St := List (Option V)
abbrev VK := V → Hp → Prop
/-- an expression's reading; a test's; an argument list's -/
abbrev TE := St → Hp → VK → Prop
abbrev TT := St → Hp → (Bool → Hp → Prop) → Prop
abbrev TA := St → Hp → (List V → Hp → Prop) → Prop
/-- what is wanted behind a statement -/
structure Ends where
  nx : St → Hp → Prop
  rt : VK
  bk : St → Hp → Prop := fun _ _ => False
  ct : St → Hp → Prop := fun _ _ => False
abbrev TS := Ends → St → Hp → Prop

def EP (X : Cx) (pins : List (Addr × Obj)) (σ : St) (Q : VK) (u : Value) (s' : Shared) : Prop := ∃ v H', Inv X pins σ H' s' ∧ RelV v u ∧ Q v H'
def TP (X : Cx) (pins : List (Addr × Obj)) (σ : St) (Q : Bool → Hp → Prop) (b : Bool) (s' : Shared) : Prop := ∃ H', Inv X pins σ H' s' ∧ Q b H'
def AP (X : Cx) (pins : List (Addr × Obj)) (σ : St) (Q : List V → Hp → Prop) (us : List Value) (s' : Shared) : Prop := ∃ vs H', Inv X pins σ H' s' ∧ Vals vs us ∧ Q vs H'
def SP (X : Cx) (pins : List (Addr × Obj)) (D : Ends) (f : Flow) (s' : Shared) : Prop :=
  match f with
  | .next => ∃ σ' H', Inv X pins σ' H' s' ∧ D.nx σ' H'
  | .brk => ∃ σ' H', Inv X pins σ' H' s' ∧ D.bk σ' H'
  | .cont => ∃ σ' H', Inv X pins σ' H' s' ∧ D.ct σ' H'
  | .ret u => ∃ v σ' H', Inv X pins σ' H' s' ∧ RelV v u ∧ D.rt v H'

def PE (X : Cx) (e : Expr) (t : TE) : Prop :=
  ∀ (pins : List (Addr × Obj)) (s : Shared) (σ : St) (H : Hp) (Q : VK), Inv X pins σ H s → t σ H Q → wpAny (model X.prog X.w) X.A (eval e X.env) (EP X pins σ Q) X.xe s
def PT (X : Cx) (e : Expr) (t : TT) : Prop :=
  ∀ (pins : List (Addr × Obj)) (s : Shared) (σ : St) (H : Hp) (Q : Bool → Hp → Prop), Inv X pins σ H s → t σ H Q → wpAny (model X.prog X.w) X.A (isTrue e X.env (eval e X.env)) (TP X pins σ Q) X.xe s
/-- a test whatever its 'whole' is (and, or) -/
def PW (X : Cx) (e : Expr) (t : TT) : Prop :=
  ∀ (whole : Sem Value) (pins : List (Addr × Obj)) (s : Shared) (σ : St) (H : Hp) (Q : Bool → Hp → Prop), Inv X pins σ H s → t σ H Q → wpAny (model X.prog X.w) X.A (isTrue e X.env whole) (TP X pins σ Q) X.xe s
theorem PW.pt {X : Cx} {e : Expr} {t : TT} (h : PW X e t) : PT X e t := h _
/-- an argument list (no star), from the left -/
def PA (X : Cx) (es : List Expr) (t : TA) : Prop :=
  ∀ (pos : Pos) (pins : List (Addr × Obj)) (s : Shared) (σ : St) (H : Hp) (Q : List V → Hp → Prop), Inv X pins σ H s → t σ H Q → wpAny (model X.prog X.w) X.A (spliced (backTo pos (starEach es X.env))) (AP X pins σ Q) X.xe s
def PS (X : Cx) (st : Stmt) (t : TS) : Prop :=
  ∀ (pins : List (Addr × Obj)) (s : Shared) (σ : St) (H : Hp) (D : Ends), Inv X pins σ H s → t D σ H → wpAny (model X.prog X.w) X.A (exec st X.env) (SP X pins D) X.xe s
def PSs (X : Cx) (st : List Stmt) (t : TS) : Prop :=
  ∀ (pins : List (Addr × Obj)) (s : Shared) (σ : St) (H : Hp) (D : Ends), Inv X pins σ H s → t D σ H → wpAny (model X.prog X.w) X.A (execs st X.env) (SP X pins D) X.xe s
/-- weaken the end -/
theorem thn {α : Type} {t : Sem α} {Q Q' : α → Shared → Prop} {M : Model} {A : Around} {E : Value → Shared → Prop} {s : Shared} (h : wpAny M A t Q E s) (hQ : ∀ a s, Q a s → Q' a s) : wpAny M A t Q' E s := wpAny_mono h hQ fun _ _ x => x
end L2

namespace L2
open PySem PySem.Spec PyProof.Rows
section
variable {X : Cx}

/-! ### names and constants -/
def tVar (i : Nat) : TE := fun σ H Q => ∃ v, σ[i]? = some (some v) ∧ Q v H
def tC (v : V) : TE := fun _ H Q => Q v H
theorem pe_var {i : Nat} {x : Str} {pos : Pos} (hN : X.N[i]? = some x) (hv : Vis X.env.scope x) (hd : (x == ("__debug__" : Str)) = false := by decide) (hcd : (x == ("__classdict__" : Str)) = false := by decide) : PE X (.Name x pos) (tVar i) := by
  intro pins s σ H Q I h
  obtain ⟨v, e, h⟩ := h
  obtain ⟨m, hn, hl⟩ := I.loc
  obtain ⟨u, r, l⟩ := hl i x v hN e hv
  have fin : EP X pins σ Q u s := ⟨v, H, I, r, h⟩
  rcases l with ⟨hk, hm⟩ | ⟨hk, c, hc, hcell⟩
  · exact wpAny_Name (wpAny_loadName_local I.ok.kind hk hn hm fin) hd
  · rcases hk with hk | hk
    · exact wpAny_Name (wpAny_loadName_cell I.ok.kind hk hc hcell fin) hd
    · exact wpAny_Name (wpAny_loadName_free I.ok.kind hk hc hcell fin hcd) hd
theorem pe_int {i j pos} : PE X (.Constant (.int i) j pos) (tC (.int i)) := fun _ _ _ H _ I h => wpAny_Constant_int ⟨.int i, H, I.tok _, ⟨_, rfl⟩, h⟩
theorem pe_bl {b j pos} : PE X (.Constant (.bool b) j pos) (tC (.bl b)) := fun _ _ _ H _ I h => Constant_bool ⟨.bl b, H, I, rfl, h⟩
/-- a global name of the def -/
def Gl (X : Cx) (x : Str) : Prop := X.env.kindOf x = some .globalImplicit
theorem ld_glob {E : Value → Shared → Prop} {pins : List (Addr × Obj)} {s : Shared} {σ : St} {H : Hp} {x : Str} {u : Value} {pos : Pos} {Q : Value → Shared → Prop} (I : Inv X pins σ H s) (hg : Gl X x) (hm : X.mg x = some u) (h : Q u s)
    (hd : (x == ("__debug__" : Str)) = false := by decide) : wpAny (model X.prog X.w) X.A (eval (.Name x pos) X.env) Q E s :=
  Calls.Name_function_global I.ok.kind hg (Calls.loadGlobal_global (by rw [I.ok.glob]; exact I.mod.glob.keeps I.bk) hm h) hd
theorem ld_blt {E : Value → Shared → Prop} {pins : List (Addr × Obj)} {s : Shared} {σ : St} {H : Hp} {x : Str} {u : Value} {pos : Pos} {Q : Value → Shared → Prop} (I : Inv X pins σ H s) (hg : Gl X x) (hm : X.mg x = none) (hv : bootBuiltins x = some u) (h : Q u s)
    (hn : x ≠ "__name__" := by decide) (hd : (x == ("__debug__" : Str)) = false := by decide) : wpAny (model X.prog X.w) X.A (eval (.Name x pos) X.env) Q E s := by
  obtain ⟨mb, h1, h2⟩ := I.mod.blt
  exact Calls.Name_function_global I.ok.kind hg (Calls.loadGlobal_builtin (by rw [I.ok.glob]; exact I.mod.glob.keeps I.bk) hm (by rw [I.ok.blt]; exact h1.keeps I.bk) ((h2 x hn).trans hv) h) hd
theorem pe_bltn {x : Str} {v : V} {u : Value} {pos : Pos} (hg : Gl X x) (hm : X.mg x = none) (hv : bootBuiltins x = some u) (r : RelV v u) (hn : x ≠ "__name__" := by decide) (hd : (x == ("__debug__" : Str)) = false := by decide) : PE X (.Name x pos) (tC v) :=
  fun _ _ _ H _ I h => ld_blt I hg hm hv ⟨v, H, I, r, h⟩ hn hd

/-! ### arithmetic -/
variable {a b : Expr} {ta tb : TE} {pos : Pos}
/-! ### comparisons -/
def PC (X : Cx) (op : CmpOp) (a b : Expr) (t : TE) : Prop :=
  ∀ (pins : List (Addr × Obj)) (s : Shared) (σ : St) (H : Hp) (Q : VK), Inv X pins σ H s → t σ H Q →
    wpAny (model X.prog X.w) X.A (eval a X.env) (fun v s₁ => wpAny (model X.prog X.w) X.A (eval b X.env) (fun u s₂ => wpAny (model X.prog X.w) X.A (compareOp op v u) (EP X pins σ Q) X.xe s₂) X.xe s₁) X.xe s
theorem nobehind (b : Expr) {op : CmpOp} (h : op ≠ .In) (h2 : op ≠ .NotIn) : behindInMarks op b = false := by
  have e1 : (op == CmpOp.In) = false := by cases op <;> first | rfl | exact absurd rfl h
  have e2 : (op == CmpOp.NotIn) = false := by cases op <;> first | rfl | exact absurd rfl h2
  cases b <;> simp [behindInMarks, e1, e2]
/-- a comparison as a value, as a test -/
def tB (t : TE) : TT := fun σ H Q => t σ H fun x H1 => ∃ c, x = .bl c ∧ Q c H1
theorem pt_cmp {op : CmpOp} {t : TE} (h : PC X op a b t) (h1 : behindInMarks op b = false := by first | exact nobehind _ (by decide) (by decide) | rfl) : PT X (.Compare a [op] [b] pos) (tB t) := by
  intro pins s σ H Q I hw
  refine wpAny_isTrue_Compare1 (thn (h pins s σ H _ I hw) fun v s1 h1 => thn h1 fun u s2 h2 => thn h2 fun c s3 ⟨x, H1, I1, r1, q1⟩ => ?_) h1
  obtain ⟨d, rfl, q⟩ := q1
  cases r1
  exact wpAny_truthy_bool ⟨H1, I1, q⟩
/-! ### and, or, not -/
variable {tA tB' : TT} {rest : List Expr}
def tAnd (t u : TT) : TT := fun σ H Q => t σ H fun c H1 => if c = true then u σ H1 Q else Q false H1
def tOr (t u : TT) : TT := fun σ H Q => t σ H fun c H1 => if c = true then Q true H1 else u σ H1 Q
def tNot (t : TT) : TT := fun σ H Q => t σ H fun c H1 => Q (!c) H1
theorem pw_and1 (ha : PT X a tA) : PW X (.BoolOp .And [a] pos) tA := by
  intro wh pins s σ H Q I h
  refine isTrue_and (thn (ha pins s σ H Q I h) fun c s1 e => ?_)
  cases c with
  | true => exact isTrue_and_nil e
  | false => exact e
theorem pw_or1 (ha : PT X a tA) : PW X (.BoolOp .Or [a] pos) tA := by
  intro wh pins s σ H Q I h
  refine isTrue_or (thn (ha pins s σ H Q I h) fun c s1 e => ?_)
  cases c with
  | false => exact isTrue_or_nil e
  | true => exact e
theorem pw_and (ha : PT X a tA) (hb : PW X (.BoolOp .And (b :: rest) pos) tB') : PW X (.BoolOp .And (a :: b :: rest) pos) (tAnd tA tB') := by
  intro wh pins s σ H Q I h
  refine isTrue_and (thn (ha pins s σ H _ I h) fun c s1 ⟨H1, I1, q1⟩ => ?_)
  cases c with
  | true => exact hb wh pins s1 σ H1 Q I1 q1
  | false => exact ⟨H1, I1, q1⟩
theorem pw_or (ha : PT X a tA) (hb : PW X (.BoolOp .Or (b :: rest) pos) tB') : PW X (.BoolOp .Or (a :: b :: rest) pos) (tOr tA tB') := by
  intro wh pins s σ H Q I h
  refine isTrue_or (thn (ha pins s σ H _ I h) fun c s1 ⟨H1, I1, q1⟩ => ?_)
  cases c with
  | true => exact ⟨H1, I1, q1⟩
  | false => exact hb wh pins s1 σ H1 Q I1 q1
theorem pt_not (ha : PT X a tA) : PT X (.UnaryOp .Not a pos) (tNot tA) := by
  intro pins s σ H Q I h
  exact isTrue_not (ha pins s σ H (fun c H1 => Q (!c) H1) I h)
/-- .. as values (bools) -/
def tAndV (ta tb : TE) : TE := fun σ H Q => ta σ H fun x H1 => ∃ c, x = .bl c ∧ if c = true then tb σ H1 Q else Q (.bl false) H1
theorem pe_one {op} {t : TE} (h : PE X a t) : PE X (.BoolOp op [a] pos) t := fun pins s σ H Q I hw => BoolOp_one (h pins s σ H Q I hw)
theorem pe_and (ha : PE X a ta) (hb : PE X (.BoolOp .And (b :: rest) pos) tb) : PE X (.BoolOp .And (a :: b :: rest) pos) (tAndV ta tb) := by
  intro pins s σ H Q I h
  refine BoolOp_and (thn (ha pins s σ H _ I h) fun v s1 ⟨x, H1, I1, r1, q1⟩ => ?_)
  obtain ⟨c, rfl, q1⟩ := q1
  cases r1
  refine wpAny_truthy_bool ?_
  cases c with
  | true => exact hb pins s1 σ H1 Q I1 q1
  | false => exact ⟨.bl false, H1, I1, rfl, q1⟩
/-- a if t else b -/
def tIf (t : TT) (ta tb : TE) : TE := fun σ H Q => t σ H fun c H1 => if c = true then ta σ H1 Q else tb σ H1 Q
theorem pe_ifExp {c : Expr} (hc : PT X c tA) (ha : PE X a ta) (hb : PE X b tb) : PE X (.IfExp c a b pos) (tIf tA ta tb) := by
  intro pins s σ H Q I h
  refine wpAny_IfExp (thn (hc pins s σ H _ I h) fun d s1 ⟨H1, I1, q1⟩ => ?_)
  cases d with
  | true => exact ha pins s1 σ H1 Q I1 q1
  | false => exact hb pins s1 σ H1 Q I1 q1
end
end L2

namespace L2
open PySem PySem.Spec PyProof.Rows

/-! ### a list, a tuple that is read: tracked, frozen, or an object of the module -/
def SqL (K : PySem.W.Frag) (H : Hp) (a : Addr) (xs : List V) : Prop :=
  Rd H a (.lst xs) ∨
    ∃ (o : Obj) (its : Array Value) (n : Nat), K.lookup a = some o ∧ o.cls = .type "list" ∧ o.dict = none ∧ o.data = .seq its n ∧ its.size ≤ sizeLine ∧ Vals xs its.toList
def SqT (K : PySem.W.Frag) (H : Hp) (a : Addr) (xs : List V) : Prop :=
  Rd H a (.tup xs) ∨
    ∃ (o : Obj) (its : Array Value) (n : Nat), K.lookup a = some o ∧ o.cls = .type "tuple" ∧ o.data = .seq its n ∧ its.size ≤ sizeLine ∧ Vals xs its.toList
def absV : Value → Option V
  | .none => some .non
  | .bool b => some (.bl b)
  | .int i _ => some (.int i)
  | .str x _ => some (.str x)
  | .bytes b _ => some (.byt b)
  | .float b _ => some (.flt b)
  | .ref a => some (.ref a)
  | .type n => some (.ty n)
  | _ => none
theorem RelV.abs {x : V} {u : Value} (r : RelV x u) : absV u = some x := by
  cases x with
  | non => cases r; rfl
  | bl _ => cases r; rfl
  | int _ => obtain ⟨t, rfl⟩ := r; rfl
  | str _ => obtain ⟨t, rfl⟩ := r; rfl
  | byt _ => obtain ⟨t, rfl⟩ := r; rfl
  | flt _ => obtain ⟨t, rfl⟩ := r; rfl
  | ref _ => cases r; rfl
  | ty _ => cases r; rfl
theorem RelV.inj {x y : V} {u : Value} (r : RelV x u) (q : RelV y u) : x = y := Option.some.inj (r.abs.symm.trans q.abs)
theorem Vals.inj : ∀ {xs ys : List V} {us : List Value}, Vals xs us → Vals ys us → xs = ys
  | _, _, _, .nil, .nil => rfl
  | _, _, _, .cons r t, .cons r' t' => by rw [r.inj r', Vals.inj t t']
section
variable {X : Cx} {pins : List (Addr × Obj)} {σ : St} {H : Hp} {s : Shared} {a : Addr} {xs ys : List V}
theorem SqL.of {K : PySem.W.Frag} (h : H a = some (.lst xs)) : SqL K H a xs := .inl (.inl h)
theorem SqT.of {K : PySem.W.Frag} (h : H a = some (.tup xs)) : SqT K H a xs := .inl (.inl h)
theorem Inv.list (I : Inv X pins σ H s) (h : SqL X.K H a xs) : ∃ its : List Value, Vals xs its ∧ PlainL s.heap a its.toArray ∧ xs.length ≤ sizeLine := by
  rcases h with h | ⟨o, its, n, hk, hc, hd, hs, hz, r⟩
  · obtain ⟨z, its, n, r, e⟩ := h.ok I.hok
    exact ⟨its, r, ⟨_, n, e, rfl, rfl, rfl⟩, z⟩
  · refine ⟨its.toList, r, ⟨o, n, I.kIn a o hk, hc, hd, by simpa using hs⟩, ?_⟩
    have e := r.length
    simp only [Array.length_toList] at e
    omega
theorem Inv.tuple (I : Inv X pins σ H s) (h : SqT X.K H a xs) : ∃ its : List Value, Vals xs its ∧ IsTup s.heap a its.toArray ∧ xs.length ≤ sizeLine := by
  rcases h with h | ⟨o, its, n, hk, hc, hs, hz, r⟩
  · obtain ⟨z, its, r, p⟩ := h.ok I.hok
    exact ⟨its, r, p, z⟩
  · refine ⟨its.toList, r, ⟨o, I.kIn a o hk, hc, n, by simpa using hs⟩, ?_⟩
    have e := r.length
    simp only [Array.length_toList] at e
    omega
theorem Inv.list_inj (I : Inv X pins σ H s) (h : SqL X.K H a xs) (h' : SqL X.K H a ys) : xs = ys := by
  obtain ⟨its, r, ⟨o, n, e, _, _, d⟩, _⟩ := I.list h
  obtain ⟨its', r', ⟨o', n', e', _, _, d'⟩, _⟩ := I.list h'
  rw [e] at e'; cases e'
  rw [d] at d'
  injection d' with d1 _
  have : its = its' := by simpa using congrArg Array.toList d1
  subst this
  exact r.inj r'
theorem Inv.tuple_inj (I : Inv X pins σ H s) (h : SqT X.K H a xs) (h' : SqT X.K H a ys) : xs = ys := by
  obtain ⟨its, r, ⟨o, e, _, n, d⟩, _⟩ := I.tuple h
  obtain ⟨its', r', ⟨o', e', _, n', d'⟩, _⟩ := I.tuple h'
  rw [e] at e'; cases e'
  rw [d] at d'
  injection d' with d1 _
  have : its = its' := by simpa using congrArg Array.toList d1
  subst this
  exact r.inj r'
end

/-! ### another wish about exceptions -/
abbrev Cx.wish (X : Cx) (E : Value → Shared → Prop) : Cx := { X with xe := E }
/-- no exception leaves -/
abbrev Cx.nox (X : Cx) : Cx := X.wish fun _ _ => False
theorem Cx.Ok.wish {X : Cx} (ok : X.Ok) (E : Value → Shared → Prop) : (X.wish E).Ok :=
  ⟨ok.mod, ok.kind, ok.glob, ok.blt, ok.above, ok.inj, ok.has, ok.cab, ok.hd, ok.frames, ok.stk, ok.exf, ok.bs, ok.bsz, ok.noex, ok.exfs, ok.funs, ok.frf⟩
theorem Cx.Ok.unwish {X : Cx} {E : Value → Shared → Prop} (ok : (X.wish E).Ok) : X.Ok :=
  ⟨ok.mod, ok.kind, ok.glob, ok.blt, ok.above, ok.inj, ok.has, ok.cab, ok.hd, ok.frames, ok.stk, ok.exf, ok.bs, ok.bsz, ok.noex, ok.exfs, ok.funs, ok.frf⟩
section
variable {X : Cx} {pins : List (Addr × Obj)} {σ : St} {H : Hp} {s : Shared} {E : Value → Shared → Prop}
theorem Inv.wish (I : Inv X pins σ H s) (E : Value → Shared → Prop) : Inv (X.wish E) pins σ H s := ⟨I.ok.wish E, I.os, I.bare, I.base, I.loc, I.cell, I.free, I.freeC, I.pin, I.hok, I.len⟩
theorem Inv.unwish (I : Inv (X.wish E) pins σ H s) : Inv X pins σ H s := ⟨I.ok.unwish, I.os, I.bare, I.base, I.loc, I.cell, I.free, I.freeC, I.pin, I.hok, I.len⟩
theorem SP.unwish {D : Ends} {f : Flow} {s' : Shared} (h : SP (X.wish E) pins D f s') : SP X pins D f s' := by
  cases f with
  | next => obtain ⟨σ', H', I, q⟩ := h; exact ⟨σ', H', I.unwish, q⟩
  | brk => obtain ⟨σ', H', I, q⟩ := h; exact ⟨σ', H', I.unwish, q⟩
  | cont => obtain ⟨σ', H', I, q⟩ := h; exact ⟨σ', H', I.unwish, q⟩
  | ret u => obtain ⟨v, σ', H', I, r, q⟩ := h; exact ⟨v, σ', H', I.unwish, r, q⟩
theorem PE.nox {e : Expr} {t : TE} (h : PE X.nox e t) : PE X e t := fun pins s σ H Q I hw =>
  wpAny_mono (h pins s σ H Q (I.wish _) hw) (fun _ _ ⟨v, H', I', r, q⟩ => ⟨v, H', I'.unwish, r, q⟩) fun _ _ z => False.elim z
theorem PT.nox {e : Expr} {t : TT} (h : PT X.nox e t) : PT X e t := fun pins s σ H Q I hw =>
  wpAny_mono (h pins s σ H Q (I.wish _) hw) (fun _ _ ⟨H', I', q⟩ => ⟨H', I'.unwish, q⟩) fun _ _ z => False.elim z
theorem PSs.nox {st : List Stmt} {t : TS} (h : PSs X.nox st t) : PSs X st t := fun pins s σ H D I hw =>
  wpAny_mono (h pins s σ H D (I.wish _) hw) (fun _ _ q => q.unwish) fun _ _ z => False.elim z
end

/-! ### blocks and small statements -/
section
variable {X : Cx} {st : Stmt} {rest : List Stmt} {t u : TS} {e : Expr} {te : TE} {pos : Pos}
def tNext : TS := fun D σ H => D.nx σ H
def tSeq (t u : TS) : TS := fun D σ H => t { D with nx := u D } σ H
theorem pss_nil : PSs X [] tNext := fun _ _ σ H _ I h => wpAny_execs_nil ⟨σ, H, I, h⟩
theorem pss_cons (h1 : PS X st t) (h2 : PSs X rest u) : PSs X (st :: rest) (tSeq t u) := by
  intro pins s σ H D I h
  refine wpAny_execs_cons (thn (h1 pins s σ H { D with nx := u D } I h) fun f s1 q => ?_)
  cases f with
  | next =>
    obtain ⟨σ', H', I', q⟩ := q
    exact h2 pins s1 σ' H' D I' q
  | ret v => exact q
  | brk => exact q
  | cont => exact q
theorem pss_one (h1 : PS X st t) : PSs X [st] t := by
  intro pins s σ H D I h
  refine wpAny_execs_cons (thn (h1 pins s σ H D I h) fun f s1 q => ?_)
  cases f with
  | next => exact wpAny_execs_nil q
  | ret v => exact q
  | brk => exact q
  | cont => exact q
/-- in a def's body nothing is shown -/
theorem Inv.quiet {pins : List (Addr × Obj)} {σ : St} {H : Hp} {s : Shared} (I : Inv X pins σ H s) : interactive X.env = false := by simp [interactive, I.ok.kind]
/-- an expression whose value is dropped -/
def tDrop (te : TE) : TS := fun D σ H => te σ H fun _ H1 => D.nx σ H1
theorem ps_expr (he : PE X e te) (hs : swapsWith e none pos.line X.env = pure false := by rfl) : PS X (.Expr e pos) (tDrop te) := by
  intro pins s σ H D I h
  exact wpAny_Expr_any (thn (he pins s σ H _ I h) fun v s1 ⟨x, H1, I1, r1, q1⟩ => ⟨σ, H1, I1, q1⟩) I.quiet hs
def tRet (te : TE) : TS := fun D σ H => te σ H D.rt
theorem ps_ret (he : PE X e te) : PS X (.Return (some e) pos) (tRet te) := by
  intro pins s σ H D I h
  exact wpAny_Return_some (thn (he pins s σ H _ I h) fun v s1 ⟨x, H1, I1, r1, q1⟩ => ⟨x, σ, H1, I1, r1, q1⟩)
def tIfS (c : TT) (t u : TS) : TS := fun D σ H => c σ H fun b H1 => if b = true then t D σ H1 else u D σ H1
theorem ps_if {c : Expr} {a b : List Stmt} {tc : TT} (hc : PT X c tc) (ha : PSs X a t) (hb : PSs X b u) : PS X (.If c a b pos) (tIfS tc t u) := by
  intro pins s σ H D I h
  refine wpAny_If (thn (hc pins s σ H _ I h) fun d s1 ⟨H1, I1, q1⟩ => ?_)
  cases d with
  | true => exact ha pins s1 σ H1 D I1 q1
  | false => exact hb pins s1 σ H1 D I1 q1
end

/-! ### targets -/
abbrev TG := V → St → Hp → (St → Hp → Prop) → Prop
abbrev TGs := List V → St → Hp → (St → Hp → Prop) → Prop
def PG (X : Cx) (target : Expr) (t : TG) : Prop :=
  ∀ (pins : List (Addr × Obj)) (s : Shared) (σ : St) (H : Hp) (v : V) (u : Value) (Q : St → Hp → Prop), Inv X pins σ H s → RelV v u → t v σ H Q →
    wpAny (model X.prog X.w) X.A (assign target X.env u) (fun _ s' => ∃ σ' H', Inv X pins σ' H' s' ∧ Q σ' H') X.xe s
/-- several targets, one after another -/
def PGs (X : Cx) (ts : List Expr) (t : TGs) : Prop :=
  ∀ (pins : List (Addr × Obj)) (s : Shared) (σ : St) (H : Hp) (vs : List V) (us : List Value) (Q : St → Hp → Prop), Inv X pins σ H s → Vals vs us → t vs σ H Q →
    wpAny (model X.prog X.w) X.A (assignInOrder ((assignEach ts X.env).map (·.2)) us) (fun _ s' => ∃ σ' H', Inv X pins σ' H' s' ∧ Q σ' H') X.xe s
/-- o[i] = v, by values -/
abbrev TSet := V → V → V → Hp → (Hp → Prop) → Prop
def PSet (X : Cx) (t : TSet) : Prop :=
  ∀ (pins : List (Addr × Obj)) (s : Shared) (σ : St) (H : Hp) (o i v : V) (ov iv u : Value) (Q : Hp → Prop), Inv X pins σ H s → RelV o ov → RelV i iv → RelV v u → t o i v H Q →
    wpAny (model X.prog X.w) X.A (setItem ov iv u) (fun _ s' => ∃ H', Inv X pins σ H' s' ∧ Q H') X.xe s
/-- a op= b, by values -/
abbrev TIp := V → V → Hp → VK → Prop
def PIp (X : Cx) (op : Operator) (t : TIp) : Prop :=
  ∀ (pins : List (Addr × Obj)) (s : Shared) (σ : St) (H : Hp) (x y : V) (v u : Value) (Q : VK), Inv X pins σ H s → RelV x v → RelV y u → t x y H Q →
    wpAny (model X.prog X.w) X.A (inplaceOp op v u) (EP X pins σ Q) X.xe s
section
variable {X : Cx} {pos : Pos}
def gName (i : Nat) : TG := fun v σ H Q => Q (σ.set i (some v)) H
theorem pg_name {i : Nat} {x : Str} (hN : X.N.Nodup) (hi : X.N[i]? = some x) (hx : Loc X.env.scope x) (hf : X.fn x = true ∨ X.env.scope.names.lookup x = some .local := by first | exact .inl rfl | exact .inr rfl | assumption) : PG X (.Name x pos) (gName i) := by
  intro pins s σ H v u Q I r h
  exact wpAny_assign_Name (store_ok I hN hi hx r (fun s' I' => ⟨_, H, I', h⟩) hf)
def gNil : TGs := fun vs σ H Q => vs = [] ∧ Q σ H
def gCons (t : TG) (u : TGs) : TGs := fun vs σ H Q => ∃ v r, vs = v :: r ∧ t v σ H fun σ' H' => u r σ' H' Q
theorem pgs_nil : PGs X [] gNil := by
  intro pins s σ H vs us Q I r h
  obtain ⟨e, h⟩ := h
  subst e
  cases r
  exact assignInOrder_nil ⟨σ, H, I, h⟩
theorem pgs_cons {e : Expr} {es : List Expr} {t : TG} {u : TGs} (h1 : PG X e t) (h2 : PGs X es u)
    (hs : (assignEach (e :: es) X.env).map (·.2) = assign e X.env :: (assignEach es X.env).map (·.2) := by rfl) : PGs X (e :: es) (gCons t u) := by
  intro pins s σ H vs us Q I r h
  obtain ⟨v, vr, e1, h⟩ := h
  subst e1
  cases r with
  | cons r rr =>
    rw [hs]
    refine assignInOrder_cons (thn (h1 pins s σ H _ _ _ I r h) fun _ s1 ⟨σ1, H1, I1, q1⟩ => ?_)
    exact h2 pins s1 σ1 H1 _ _ Q I1 rr q1
/-- (a, b, ..) = a tuple of that length -/
def gTup (K : PySem.W.Frag) (n : Nat) (t : TGs) : TG := fun v σ H Q => ∃ a xs, v = .ref a ∧ SqT K H a xs ∧ xs.length = n ∧ t xs σ H Q
theorem pg_tup {es : List Expr} {k : Nat} {t : TGs} {n : Nat} (hc : X.calm = true) (h : PGs X es t)
    (hn : (assignEach es X.env).length = n := by rfl) (hst : (assignEach es X.env).findIdx? (·.1) = none := by rfl) : PG X (.Tuple es k pos) (gTup X.K n t) := by
  intro pins s σ H v u Q I r hw
  obtain ⟨a, xs, e1, hq, hl, hw⟩ := hw
  subst e1
  cases r
  obtain ⟨its, rv, ht, hz⟩ := I.tuple hq
  refine assign_Tuple_tuple (I.ok.hd hc) ht (by simp [hn, ← hl, rv.length]) hst fun h' hx => ?_
  have I1 : Inv X pins σ H { s with heap := h' } := I.kept (t' := s.toks) fun b o e => hx b o (Nat.ne_of_lt (Heap.lt_size e)) e
  exact h pins _ σ H xs _ Q I1 (by simpa using rv) hw
/-- o[i] = .. -/
def gSub (to ti : TE) (t : TSet) : TG := fun v σ H Q => to σ H fun o H1 => ti σ H1 fun i H2 => t o i v H2 fun H3 => Q σ H3
theorem pg_sub {o i : Expr} {to ti : TE} {t : TSet} (ho : PE X o to) (hi : PE X i ti) (hs : PSet X t)
    (ha : ∀ v, assign (.Subscript o i pos) X.env v = (do
      let ov ← holding [v] (eval o X.env)
      let iv ← holding [v, ov] (eval i X.env)
      standAt pos
      holding [v, ov, iv] (setItem ov iv v)
      release [v, ov, iv] []) := by intro _; rfl) : PG X (.Subscript o i pos) (gSub to ti t) := by
  intro pins s σ H v u Q I r h
  rw [ha]
  refine wpAny_bind (wpAny_holding (thn (ho pins s σ H _ I h) fun ov s1 ⟨x, H1, I1, r1, q1⟩ => ?_))
  refine wpAny_bind (wpAny_holding (thn (hi pins s1 σ H1 _ I1 q1) fun iv s2 ⟨y, H2, I2, r2, q2⟩ => ?_))
  refine wpAny_bind (wpAny_standAt (wpAny_bind (wpAny_holding (thn (hs pins s2 σ H2 x y v ov iv u _ I2 r1 r2 r q2) fun _ s3 ⟨H3, I3, q3⟩ => ?_))))
  exact wpAny_release ⟨σ, H3, I3, q3⟩
/-- target = value -/
def tAsg (te : TE) (g : TG) : TS := fun D σ H => te σ H fun x H1 => g x σ H1 D.nx
theorem ps_asg {tg e : Expr} {te : TE} {g : TG} (he : PE X e te) (hg : PG X tg g) (hs : swapsWithSole [tg] e pos.line X.env = pure false := by rfl) (hw : swappedStores [tg] e X.env = pure none := by rfl)
    (h1 : (assignEach [tg] X.env).map (·.2) = [assign tg X.env] := by rfl) : PS X (.Assign [tg] e pos) (tAsg te g) := by
  intro pins s σ H D I h
  refine wpAny_Assign_stores (thn (he pins s σ H _ I h) fun v s1 ⟨x, H1, I1, r1, q1⟩ => ?_) hs hw
  rw [h1]
  exact thn (hg pins s1 σ H1 x v _ I1 r1 q1) fun _ s2 q => q
/-- name = value -/
theorem ps_set {i : Nat} {x : Str} {e : Expr} {te : TE} {pos' : Pos} (hN : X.N.Nodup) (hi : X.N[i]? = some x) (hx : Loc X.env.scope x) (he : PE X e te) (hs : swapsWith e (some (.Name x pos')) pos.line X.env = pure false := by rfl) (hf : X.fn x = true ∨ X.env.scope.names.lookup x = some .local := by first | exact .inl rfl | exact .inr rfl | assumption) :
    PS X (.Assign [.Name x pos'] e pos) (tAsg te (gName i)) := by
  intro pins s σ H D I h
  refine wpAny_Assign_Name (thn (he pins s σ H _ I h) fun v s1 ⟨y, H1, I1, r1, q1⟩ => ?_) hs
  exact store_ok I1 hN hi hx r1 (fun s2 I2 => ⟨_, H1, I2, q1⟩) hf
/-- a, b = x, y with plain local names: stored from the right; the pair itself is not tracked (the opening rows as in PyProof/Rows/TupAssign.lean:23) -/
def tPar (i j : Nat) (ta : TA) : TS := fun D σ H => ta σ H fun vs H1 => ∃ v w, vs = [v, w] ∧ D.nx ((σ.set i (some v)).set j (some w)) H1
theorem ps_par {i j : Nat} {x y : Str} {a b : Expr} {ta : TA} {px py pt : Pos} {kt k2 pt2} (hc : X.calm = true) (hN : X.N.Nodup) (hi : X.N[i]? = some x) (hj : X.N[j]? = some y) (hij : i ≠ j)
    (hx : X.env.scope.names.lookup x = some .local) (hy : X.env.scope.names.lookup y = some .local) (ha : PA X [a, b] ta)
    (hw : swappedStores [.Tuple [.Name x px, .Name y py] kt pt] (.Tuple [a, b] k2 pt2) X.env = pure (some [x, y]))
    (hs : swapsWithSole [.Tuple [.Name x px, .Name y py] kt pt] (.Tuple [a, b] k2 pt2) pos.line X.env = pure false := by rfl) :
    PS X (.Assign [.Tuple [.Name x px, .Name y py] kt pt] (.Tuple [a, b] k2 pt2) pos) (tPar i j ta) := by
  intro pins s σ H D I h
  rw [exec_Assign_arm]
  refine wpAny_bind (wpAny_standAt ?_)
  rw [hs]
  refine wpAny_bind (wpAny_pure ?_)
  rw [if_neg (by decide)]
  refine wpAny_bind (Tuple_ (thn (ha _ pins s σ H _ I h) fun us s1 ⟨vs, H1, I1, r1, q1⟩ => ?_))
  obtain ⟨v, w, e1, q1⟩ := q1
  subst e1
  obtain ⟨u1, u2, rfl, rv, rw'⟩ : ∃ u1 u2, us = [u1, u2] ∧ RelV v u1 ∧ RelV w u2 := by
    cases r1 with
    | cons p q =>
      cases q with
      | cons p' q' =>
        cases q'
        exact ⟨_, _, rfl, p, p'⟩
  refine wpAny_newObj_type ?_ (by show 2 ≤ sizeLine; decide)
  have I2 : Inv X pins σ H1 { s1 with heap := s1.heap.push { cls := .type "tuple", data := .seq [u1, u2].toArray } } := I1.kept (t' := s1.toks) fun b o e => Heap.get?_push_of_some _ e
  rw [hw]
  refine wpAny_bind (wpAny_pure ?_)
  show wpAny (model X.prog X.w) X.A (do rule "assign.swapped-stores"; let items ← unpackItems (.ref s1.heap.objs.size) 2 none; assignInOrder [fun v => bindName X.env y v, fun v => bindName X.env x v] items.reverse; pure Flow.next) _ _ _
  refine wpAny_bind (wpAny_rule (wpAny_bind (unpackItems_tuple (items := #[u1, u2]) (I.ok.hd hc) (IsTup.new s1.heap _) fun h' hx' => ?_)))
  have I3 := I2.kept (h' := h') (t' := s1.toks) fun b o e => hx' b o (Nat.ne_of_lt (Heap.lt_size e)) e
  show wpAny _ _ (assignInOrder [fun v => bindName X.env y v, fun v => bindName X.env x v] [u2, u1] >>= fun _ => pure Flow.next) _ _ _
  refine wpAny_bind (assignInOrder_cons (wpAny_bindName (store_ok I3 hN hj (.inl hy) rw' (fun s2 I4 => ?_) (.inr hy))))
  refine assignInOrder_cons (wpAny_bindName (store_ok I4 hN hi (.inl hx) rv (fun s3 I5 => assignInOrder_nil (wpAny_pure ?_)) (.inr hx)))
  rw [List.set_comm _ _ (Ne.symm hij)] at I5
  exact ⟨_, H1, I5, q1⟩
/-- name op= e -/
def tAug (i : Nat) (te : TE) (ti : TIp) : TS := fun D σ H => ∃ x, σ[i]? = some (some x) ∧ te σ H fun y H1 => ti x y H1 fun z H2 => D.nx (σ.set i (some z)) H2
theorem ps_aug {i : Nat} {x : Str} {e : Expr} {te : TE} {op : Operator} {ti : TIp} {pos' : Pos} (hN : X.N.Nodup) (hi : X.N[i]? = some x) (hx : Loc X.env.scope x) (he : PE X e te) (ho : PIp X op ti) (hf : X.fn x = true ∨ X.env.scope.names.lookup x = some .local := by first | exact .inl rfl | exact .inr rfl | assumption) :
    PS X (.AugAssign (.Name x pos') op e pos) (tAug i te ti) := by
  intro pins s σ H D I h
  obtain ⟨v, e1, h⟩ := h
  obtain ⟨m, hn, hl⟩ := I.loc
  have vis : Vis X.env.scope x := by rcases hx with k | k; exact .inl k; exact .inr (.inl k)
  obtain ⟨u, r, l⟩ := hl i x v hi e1 vis
  refine wpAny_AugAssign_Name ?_
  have go : wpAny (model X.prog X.w) X.A (eval e X.env) (fun w s₂ => wpAny (model X.prog X.w) X.A (inplaceOp op u w) (fun r s₃ => wpAny (model X.prog X.w) X.A (storeName X.env x r) (fun _ => SP X pins D .next) X.xe s₃) X.xe s₂) X.xe s := by
    refine thn (he pins s σ H _ I h) fun w s1 ⟨y, H1, I1, r1, q1⟩ => ?_
    refine thn (ho pins s1 σ H1 v y u w _ I1 r r1 q1) fun z s2 ⟨zv, H2, I2, r2, q2⟩ => ?_
    exact store_ok I2 hN hi hx r2 (fun s3 I3 => ⟨_, H2, I3, q2⟩) hf
  rcases l with ⟨hk, hm⟩ | ⟨hk, c, hc, hcell⟩
  · exact wpAny_loadName_local I.ok.kind hk hn hm go
  · rcases hk with hk | hk
    · exact wpAny_loadName_cell I.ok.kind hk hc hcell go
    · rcases hx with k | k
      · have : X.env.scope.names.lookup x = some .free := hk
        rw [k] at this; cases this
      · have : X.env.scope.names.lookup x = some .free := hk
        rw [k] at this; cases this
/-- ints -/
def ipI (f : Int → Int → Int) : TIp := fun x y H Q => ∃ i j, x = .int i ∧ y = .int j ∧ Q (.int (f i j)) H
theorem ip_add : PIp X .Add (ipI fun i j => i + j) := by
  intro pins s σ H x y v u Q I r1 r2 h
  obtain ⟨i, j, e1, e2, q⟩ := h
  subst e1; subst e2
  obtain ⟨t, rfl⟩ := r1
  obtain ⟨t', rfl⟩ := r2
  exact iadd_int ⟨.int _, H, I.tok _, ⟨_, rfl⟩, q⟩
end

/-! ### while -/
section
variable {X : Cx} {pos : Pos}
/-- the invariant W with its measure -/
def tWhile (c : TT) (tb : TS) : TS := fun D σ H => ∃ W : Nat → St → Hp → Prop, (∃ m, W m σ H) ∧ ∀ m σ H, W m σ H →
  c σ H fun b H1 => if b = true then ∃ N : St → Hp → Prop, (∀ σ' H', N σ' H' → ∃ m', m' < m ∧ W m' σ' H') ∧ tb { D with nx := N, ct := N, bk := D.nx } σ H1 else D.nx σ H1
theorem ps_while {c : Expr} {body : List Stmt} {tc : TT} {tb : TS} (hp : PassesOwn (model X.prog X.w) X.A X.env X.xe) (hc : PT X c tc) (hb : PSs X body tb) : PS X (.While c body [] pos) (tWhile tc tb) := by
  intro pins s σ H D I h
  obtain ⟨W, ⟨m0, w0⟩, turn⟩ := h
  refine wpAny_While (codeAny_whileLoop (fun n s' => ∃ σ' H', Inv X pins σ' H' s' ∧ W n σ' H') ?_ m0 ⟨σ, H, I, w0⟩)
  rintro n s1 ⟨σ1, H1, I1, w1⟩
  refine wpAny_passesOwn hp (thn (hc pins s1 σ1 H1 _ I1 (turn n σ1 H1 w1)) fun b s2 ⟨H2, I2, q2⟩ => ?_)
  cases b with
  | true =>
    obtain ⟨N, hN, q2⟩ := q2
    rw [if_pos rfl]
    refine wpAny_passesOwn hp (thn (hb pins s2 σ1 H2 _ I2 q2) fun f s3 q3 => ?_)
    cases f with
    | next =>
      obtain ⟨σ3, H3, I3, n3⟩ := q3
      obtain ⟨m', hm, w3⟩ := hN σ3 H3 n3
      exact ⟨m', hm, σ3, H3, I3, w3⟩
    | cont =>
      obtain ⟨σ3, H3, I3, n3⟩ := q3
      obtain ⟨m', hm, w3⟩ := hN σ3 H3 n3
      exact ⟨m', hm, σ3, H3, I3, w3⟩
    | brk => exact q3
    | ret v => exact q3
  | false =>
    rw [if_neg Bool.false_ne_true]
    exact wpAny_execs_nil ⟨σ1, H2, I2, q2⟩
end

/-! ### what a loop or a comprehension walks -/
/-- at turn i: it yields x (the heap may grow), or it stops -/
structure It where
  go : Nat → Hp → Prop
  yld : Nat → Hp → V → Hp → Prop
  stop : Nat → Hp → Prop
/-- the iterator's own objects may turn: they are not the frame's, not pinned, younger than the entry (or a comprehension's own) -/
def FpOk (X : Cx) (pins : List (Addr × Obj)) (H : Hp) (b : Addr) : Prop :=
  H b = none ∧ b ≠ X.env.locals ∧ b ∉ X.fs ∧ (b ∈ X.ex ∨ X.s₀.heap.objs.size ≤ b) ∧ (∀ x c, X.env.cells.lookup x = some c → c ≠ b) ∧ ∀ p ∈ X.pn ++ pins, p.1 ≠ b
theorem Inv.fpOk {X : Cx} {pins : List (Addr × Obj)} {σ : St} {H H' : Hp} {s : Shared} {b : Addr} (I : Inv X pins σ H s) (hb : s.heap.objs.size ≤ b) (hn : H' b = none) : FpOk X pins H' b := by
  refine ⟨hn, Nat.ne_of_gt (Nat.lt_of_lt_of_le I.lt hb), I.nofs hb, .inr (Nat.le_trans I.sz hb), fun x c e z => ?_, fun p hp z => ?_⟩
  · obtain ⟨v, q⟩ := I.cell x c e
    exact absurd (Nat.lt_of_lt_of_le q.lt (by rw [z]; exact hb)) (Nat.lt_irrefl _)
  · exact absurd (Nat.lt_of_lt_of_le (Heap.lt_size (I.pin p hp).1) (by rw [z]; exact hb)) (Nat.lt_irrefl _)
structure Turn (P : Program) (w : World) (K : PySem.W.Frag) (tg : Expr) (J : It) (fp : List Addr) (it : Addr) (tn : Nat → Heap → Prop) : Prop where
  mem : it ∈ fp
  obj : ∀ i h, tn i h → ∀ b ∈ fp, ∃ o, h.get? b = some o ∧ ∀ v, o.data ≠ .cell v
  keep : ∀ i h h', tn i h → (∀ b ∈ fp, ∀ o, h.get? b = some o → h'.get? b = some o) → tn i h'
  item : ∀ (X : Cx), X.prog = P → X.w = w → X.K = K → X.calm = true → ∀ (i : Nat) (pins : List (Addr × Obj)) (s : Shared) (σ : St) (H : Hp) (E : Value → Shared → Prop), Inv X pins σ H s → (∀ b ∈ fp, FpOk X pins H b) → tn i s.heap → J.go i H →
    wpAny (model P w) X.A (pyNext (.ref it)) (fun r s1 => ∃ u, r = some u ∧
      wpAny (model P w) X.A (letOwnedTupleGo tg (.ref it) u) (fun _ s2 => ∃ x H', Inv X pins σ H' s2 ∧ RelV x u ∧ J.yld i H x H' ∧ tn (i + 1) s2.heap ∧ ∀ b ∈ fp, H' b = none) E s1) E s
  done : ∀ (X : Cx), X.prog = P → X.w = w → X.K = K → X.calm = true → ∀ (i : Nat) (pins : List (Addr × Obj)) (s : Shared) (σ : St) (H : Hp) (E : Value → Shared → Prop), Inv X pins σ H s → (∀ b ∈ fp, FpOk X pins H b) → tn i s.heap → J.stop i H →
    wpAny (model P w) X.A (pyNext (.ref it)) (fun r s1 => r = none ∧ Inv X pins σ H s1) E s
  self : ∀ (A : Around) (i : Nat) (s : Shared) (Q : Value → Shared → Prop) (E : Value → Shared → Prop), tn i s.heap → Q (.ref it) s → wpAny (model P w) A (pyIter (.ref it)) Q E s
abbrev TI := St → Hp → (It → Hp → Prop) → Prop
/-- an iterator has come -/
def PIE (X : Cx) (pins : List (Addr × Obj)) (σ : St) (tg : Expr) (R : It → Hp → Prop) (itv : Value) (s2 : Shared) : Prop :=
  ∃ (it : Addr) (fp : List Addr) (tn : Nat → Heap → Prop) (J : It) (H' : Hp), itv = .ref it ∧ Inv X pins σ H' s2 ∧ Turn X.prog X.w X.K tg J fp it tn ∧ tn 0 s2.heap ∧ (∀ b ∈ fp, FpOk X pins H' b) ∧ R J H'
def PI (X : Cx) (tg iter : Expr) (wi : TI) : Prop :=
  ∀ (pins : List (Addr × Obj)) (s : Shared) (σ : St) (H : Hp) (R : It → Hp → Prop), Inv X pins σ H s → wi σ H R →
    wpAny (model X.prog X.w) X.A (eval iter X.env) (fun v s1 => wpAny (model X.prog X.w) X.A (pyIter v) (PIE X pins σ tg R) X.xe s1) X.xe s

/-- the step ahead of the store is nothing for an iterator that keeps no tuple -/
theorem go_of {M : Model} {A : Around} {E : Value → Shared → Prop} {s : Shared} {tg : Expr} {it : Addr} {u : Value} {o : Obj} {n : String} {vs : Array Value} {Q : Unit → Shared → Prop} (ho : s.heap.get? it = some o) (hc : o.cls = .type n) (hd : o.data = .fields vs)
    (hn : ["enumerate", "zip", "dict_itemiterator", "dict_reverseitemiterator", "odict_iterator", "itertools.zip_longest", "itertools.pairwise"].contains n = false) (hQ : Q () s) : wpAny M A (letOwnedTupleGo tg (.ref it) u) Q E s := by
  unfold letOwnedTupleGo
  cases tg <;> first
    | exact wpAny_pure hQ
    | (cases u <;> first
        | exact wpAny_pure hQ
        | (refine wpAny_bind (wpAny_load ho ?_)
           rw [hc, hd]
           show wpAny M A (if (["enumerate", "zip", "dict_itemiterator", "dict_reverseitemiterator", "odict_iterator", "itertools.zip_longest", "itertools.pairwise"].contains n && vs[0]? == some (rawInt _)) = true then _ else _) Q E s
           rw [if_neg (by intro h; rw [hn, Bool.false_and] at h; cases h)]
           exact wpAny_pure hQ))

/-- the list at a, as it stands at each turn (a loop may append to it) -/
def Itl (K : PySem.W.Frag) (a : Addr) : It :=
  ⟨fun i H => ∃ xs x, SqL K H a xs ∧ xs[i]? = some x, fun i H x H' => H' = H ∧ ∀ xs, SqL K H a xs → xs[i]? = some x, fun i H => ∃ xs, SqL K H a xs ∧ xs.length ≤ i⟩
def Itt (K : PySem.W.Frag) (a : Addr) : It :=
  ⟨fun i H => ∃ xs x, SqT K H a xs ∧ xs[i]? = some x, fun i H x H' => H' = H ∧ ∀ xs, SqT K H a xs → xs[i]? = some x, fun i H => ∃ xs, SqT K H a xs ∧ xs.length ≤ i⟩
/-- lo, lo + 1, .. (n of them) -/
def Itr (lo : Int) (n : Nat) : It := ⟨fun i _ => i < n, fun i H x H' => H' = H ∧ x = .int (lo + i), fun i _ => n ≤ i⟩
theorem turn_list {P : Program} {w : World} {K : PySem.W.Frag} {tg : Expr} (a it : Addr) : Turn P w K tg (Itl K a) [it] it (fun i h => h.IsListIter it a i) where
  mem := by simp
  obj := fun i h st b hb => by
    have e : b = it := by simpa using hb
    subst e
    obtain ⟨o, e, c, d⟩ := st
    exact ⟨o, e, fun v z => by rw [d] at z; cases z⟩
  keep := fun i h h' st k => st.at fun o e => k it (by simp) o e
  item := by
    intro X hP hw hK hc i pins s σ H E I hf st hg
    subst hP hw hK
    obtain ⟨xs, x, hq, hx⟩ := hg
    obtain ⟨its, rv, p, hz⟩ := I.list hq
    obtain ⟨u, hu, ru⟩ := rv.get hx
    obtain ⟨f0, f1, f2, f3, f4, f5⟩ := hf it (by simp)
    refine wpAny_pyNext_list_item st p.isList (x := u) (by simpa using hu) fun h' st' sb => ?_
    have I1 : Inv X pins σ H { s with heap := h' } := I.turned (t' := s.toks) (fun b o hb e => (sb.2 b hb).trans e) f0 f1 f3 f4 f5
    obtain ⟨o, e, c, d⟩ := id st'
    exact ⟨u, rfl, go_of (s := { s with heap := h' }) e c d (by decide) ⟨x, H, I1, ru, ⟨rfl, fun ys hy => by rw [I.list_inj hy hq]; exact hx⟩, st', fun b hb => (hf b hb).1⟩⟩
  done := by
    intro X hP hw hK hc i pins s σ H E I hf st hg
    subst hP hw hK
    obtain ⟨xs, hq, hx⟩ := hg
    obtain ⟨its, rv, p, hz⟩ := I.list hq
    obtain ⟨f0, f1, f2, f3, f4, f5⟩ := hf it (by simp)
    have hl := rv.length
    exact wpAny_pyNext_list_end (I.ok.hd hc) st p.isList (by simp; omega) fun h' eb => ⟨rfl, I.turned (t' := s.toks) (fun b o hb e => eb b o hb e) f0 f1 f3 f4 f5⟩
  self := fun _ _ _ _ _ st h => wpAny_pyIter_listiter st h
theorem turn_tuple {P : Program} {w : World} {K : PySem.W.Frag} {tg : Expr} (a it : Addr) : Turn P w K tg (Itt K a) [it] it (fun i h => h.IsTupleIter it a i) where
  mem := by simp
  obj := fun i h st b hb => by
    have e : b = it := by simpa using hb
    subst e
    obtain ⟨o, e, c, d⟩ := st
    exact ⟨o, e, fun v z => by rw [d] at z; cases z⟩
  keep := fun i h h' st k => st.at fun o e => k it (by simp) o e
  item := by
    intro X hP hw hK hc i pins s σ H E I hf st hg
    subst hP hw hK
    obtain ⟨xs, x, hq, hx⟩ := hg
    obtain ⟨its, rv, p, hz⟩ := I.tuple hq
    obtain ⟨u, hu, ru⟩ := rv.get hx
    obtain ⟨f0, f1, f2, f3, f4, f5⟩ := hf it (by simp)
    refine wpAny_pyNext_tuple_item st (show s.heap.IsTuple a its.toArray from p) (x := u) (by simpa using hu) fun h' st' sb => ?_
    have I1 : Inv X pins σ H { s with heap := h' } := I.turned (t' := s.toks) (fun b o hb e => (sb.2 b hb).trans e) f0 f1 f3 f4 f5
    obtain ⟨o, e, c, d⟩ := id st'
    exact ⟨u, rfl, go_of (s := { s with heap := h' }) e c d (by decide) ⟨x, H, I1, ru, ⟨rfl, fun ys hy => by rw [I.tuple_inj hy hq]; exact hx⟩, st', fun b hb => (hf b hb).1⟩⟩
  done := by
    intro X hP hw hK hc i pins s σ H E I hf st hg
    subst hP hw hK
    obtain ⟨xs, hq, hx⟩ := hg
    obtain ⟨its, rv, p, hz⟩ := I.tuple hq
    obtain ⟨f0, f1, f2, f3, f4, f5⟩ := hf it (by simp)
    have hl := rv.length
    exact wpAny_pyNext_tuple_end (I.ok.hd hc) st (show s.heap.IsTuple a its.toArray from p) (by simp; omega) fun h' eb => ⟨rfl, I.turned (t' := s.toks) (fun b o hb e => eb b o hb e) f0 f1 f3 f4 f5⟩
  self := fun _ _ _ _ _ st h => wpAny_pyIter_tupleiter st h
theorem turn_range {P : Program} {w : World} {K : PySem.W.Frag} {tg : Expr} (it : Addr) (lo : Int) (n : Nat) : Turn P w K tg (Itr lo n) [it] it (fun i h => IsRangeIter h it (lo + (i : Nat) * 1) ((n : Int) - (i : Nat)) 1) where
  mem := by simp
  obj := fun i h st b hb => by
    have e : b = it := by simpa using hb
    subst e
    exact ⟨_, st, fun v z => by
      have z' : Data.fields _ = Data.cell v := z
      cases z'⟩
  keep := fun i h h' st k => k it (by simp) _ st
  item := by
    intro X hP hw hK hc i pins s σ H E I hf st hg
    subst hP hw hK
    obtain ⟨f0, f1, f2, f3, f4, f5⟩ := hf it (by simp)
    have W := Walks.range (prog := X.prog) (w := X.w) (I.ok.hd hc) it lo 1 n
    refine W.item i s _ _ hg st fun v h' tk hv st' kk => ?_
    obtain ⟨t, rfl⟩ := hv
    have I1 : Inv X pins σ H { s with heap := h', toks := tk } := I.turned (fun b o hb e => kk b o (by simpa using hb) e) f0 f1 f3 f4 f5
    refine ⟨_, rfl, go_of (s := { s with heap := h', toks := tk }) (n := "range_iterator") st' rfl rfl (by decide) ⟨.int (lo + i), H, I1, ⟨t, ?_⟩, ⟨rfl, rfl⟩, st', fun b hb => (hf b hb).1⟩⟩
    rw [Int.mul_one]
  done := by
    intro X hP hw hK hc i pins s σ H E I hf st hg
    subst hP hw hK
    obtain ⟨f0, f1, f2, f3, f4, f5⟩ := hf it (by simp)
    exact wpAny_pyNext_range_end (I.ok.hd hc) st (by have : n ≤ i := hg; omega) fun h' eb => ⟨rfl, I.turned (t' := s.toks) (fun b o hb e => eb b o hb e) f0 f1 f3 f4 f5⟩
  self := fun _ _ _ _ _ st h => wpAny_pyIter_rangeiter st h
end L2

namespace L2
open PySem PySem.Spec PyProof.Rows
section
variable {X : Cx} {tg : Expr}
def iList (K : PySem.W.Frag) (tl : TE) : TI := fun σ H R => tl σ H fun x H1 => ∃ a, x = .ref a ∧ (∃ xs, SqL K H1 a xs) ∧ R (Itl K a) H1
def iTup (K : PySem.W.Frag) (tl : TE) : TI := fun σ H R => tl σ H fun x H1 => ∃ a, x = .ref a ∧ (∃ xs, SqT K H1 a xs) ∧ R (Itt K a) H1
theorem pi_list {l : Expr} {tl : TE} (hl : PE X l tl) : PI X tg l (iList X.K tl) := by
  intro pins s σ H R I h
  refine thn (hl pins s σ H _ I h) fun v s1 ⟨x, H1, I1, r1, q1⟩ => ?_
  obtain ⟨a, e, ⟨xs, hq⟩, q⟩ := q1
  subst e
  cases r1
  obtain ⟨its, rv, p, hz⟩ := I1.list hq
  refine wpAny_pyIter_list p.isList ?_
  refine ⟨s1.heap.objs.size, [s1.heap.objs.size], _, _, H1, rfl, I1.kept (t' := s1.toks) fun b o e => Heap.get?_push_of_some _ e, turn_list a _, ⟨_, Heap.get?_push_size _ rfl, rfl, rfl⟩, fun b hb => ?_, q⟩
  have e : b = s1.heap.objs.size := by simpa using hb
  subst e
  exact I1.fpOk (Nat.le_refl _) (I1.hok.fresh (Nat.le_refl _))
theorem pi_tup {l : Expr} {tl : TE} (hl : PE X l tl) : PI X tg l (iTup X.K tl) := by
  intro pins s σ H R I h
  refine thn (hl pins s σ H _ I h) fun v s1 ⟨x, H1, I1, r1, q1⟩ => ?_
  obtain ⟨a, e, ⟨xs, hq⟩, q⟩ := q1
  subst e
  cases r1
  obtain ⟨its, rv, p, hz⟩ := I1.tuple hq
  refine wpAny_pyIter_tuple (show s1.heap.IsTuple a its.toArray from p) ?_
  refine ⟨s1.heap.objs.size, [s1.heap.objs.size], _, _, H1, rfl, I1.kept (t' := s1.toks) fun b o e => Heap.get?_push_of_some _ e, turn_tuple a _, ⟨_, Heap.get?_push_size _ rfl, rfl, rfl⟩, fun b hb => ?_, q⟩
  have e : b = s1.heap.objs.size := by simpa using hb
  subst e
  exact I1.fpOk (Nat.le_refl _) (I1.hok.fresh (Nat.le_refl _))
/-- a range object just made, walked -/
theorem range_it {pins : List (Addr × Obj)} {σ : St} {H : Hp} {s : Shared} {R : It → Hp → Prop} {E : Value → Shared → Prop} {lo hi : Int} {t u v : Tok} {tk : Nat} (I : Inv X pins σ H s) (h1 : -(2 ^ 62) ≤ lo) (h2 : lo < 2 ^ 62) (h3 : -(2 ^ 62) ≤ hi) (h4 : hi < 2 ^ 62)
    (q : R (Itr lo (hi - lo).toNat) H) : wpAny (model X.prog X.w) X.A (pyIter (.ref s.heap.objs.size)) (PIE X pins σ tg R) E { s with heap := s.heap.push { cls := .type "range", data := .fields #[.int lo t, .int hi u, .int 1 v] }, toks := tk } := by
  refine wpAny_pyIter_range (IsRange.new ..) (small_one h1 h2 h3 h4) ?_
  have I1 : Inv X pins σ H { s with heap := s.heap.push { cls := .type "range", data := .fields #[.int lo t, .int hi u, .int 1 v] }, toks := tk } := I.kept fun b o e => Heap.get?_push_of_some _ e
  refine ⟨(s.heap.push { cls := .type "range", data := .fields #[.int lo t, .int hi u, .int 1 v] }).objs.size, [(s.heap.push { cls := .type "range", data := .fields #[.int lo t, .int hi u, .int 1 v] }).objs.size], _, _, H, rfl,
    I1.kept (t' := tk) fun b o e => Heap.get?_push_of_some _ e, turn_range _ lo (hi - lo).toNat, ?_, fun b hb => ?_, q⟩
  · have e1 : lo + ((0 : Nat) : Int) * 1 = lo := by simp
    have e2 : (((hi - lo).toNat : Nat) : Int) - ((0 : Nat) : Int) = Builtin.Range.rangeSize lo hi 1 := by rw [rangeSize_one]; split <;> omega
    show IsRangeIter _ _ (lo + ((0 : Nat) : Int) * 1) ((((hi - lo).toNat : Nat) : Int) - ((0 : Nat) : Int)) 1
    rw [e1, e2]
    exact Heap.get?_push_size _ rfl
  · have e : b = (s.heap.push { cls := .type "range", data := .fields #[.int lo t, .int hi u, .int 1 v] }).objs.size := by simpa using hb
    subst e
    exact I1.fpOk (Nat.le_refl _) (I1.hok.fresh (Nat.le_refl _))
def iRng1 (ta : TA) : TI := fun σ H R => ta σ H fun vs H1 => ∃ j : Int, vs = [.int j] ∧ -(2 ^ 62) ≤ j ∧ j < 2 ^ 62 ∧ R (Itr 0 j.toNat) H1
theorem pi_range1 {a : Expr} {ta : TA} {p pos : Pos} (hg : Gl X "range") (hm : X.mg "range" = none) (ha : PA X [a] ta) (hs : starEach [a] X.env = [(false, eval a X.env)] := by rfl) : PI X tg (.Call (.Name "range" p) [a] [] pos) (iRng1 ta) := by
  intro pins s σ H R I h
  refine Call_ (ld_blt I hg hm boot_range (PyProof.Rows.callWith_type1 (thn (ha pos pins s σ H _ I h) fun us s1 ⟨vs, H1, I1, r1, q1⟩ => ?_) hs rfl))
  obtain ⟨j, e, q1, q2, q⟩ := q1
  subst e
  cases r1 with
  | cons r rr =>
    cases rr
    obtain ⟨t, rfl⟩ := r
    exact call_range_1 (range_it I1 (by omega) (by omega) q1 q2 (by simpa using q))
/-! ### for -/
/-- W: the invariant by the turn and a measure; N: what the body is to reach -/
def tFor (wi : TI) (g : TG) (tb : TS) : TS := fun D σ H => wi σ H fun J H1 => ∃ W : Nat → Nat → St → Hp → Prop, (∃ m, W 0 m σ H1) ∧ ∀ i m σ H, W i m σ H →
  (J.stop i H ∧ D.nx σ H) ∨ (J.go i H ∧ ∃ N : St → Hp → Prop, (∀ σ' H', N σ' H' → ∃ m', m' < m ∧ W (i + 1) m' σ' H') ∧ ∀ x H', J.yld i H x H' → g x σ H' fun σ2 H2 => tb { D with nx := N, ct := N, bk := D.nx } σ2 H2)
/-- the records at fp as they stand -/
def pinsAt (fp : List Addr) (h : Heap) : List (Addr × Obj) := fp.filterMap fun b => (h.get? b).map fun o => (b, o)
theorem mem_pinsAt {fp : List Addr} {h : Heap} {b : Addr} {o : Obj} (hb : b ∈ fp) (e : h.get? b = some o) : (b, o) ∈ pinsAt fp h := List.mem_filterMap.mpr ⟨b, hb, by rw [e]; rfl⟩
theorem of_pinsAt {fp : List Addr} {h : Heap} {p : Addr × Obj} (hp : p ∈ pinsAt fp h) : p.1 ∈ fp ∧ h.get? p.1 = some p.2 := by
  obtain ⟨b, hb, e⟩ := List.mem_filterMap.mp hp
  cases q : h.get? b with
  | none => rw [q] at e; cases e
  | some o =>
    rw [q] at e
    have e' : (b, o) = p := Option.some.inj e
    subst e'
    exact ⟨hb, q⟩
theorem Inv.pinned {pins : List (Addr × Obj)} {σ : St} {H : Hp} {s : Shared} {fp : List Addr} (I : Inv X pins σ H s) (hf : ∀ b ∈ fp, FpOk X pins H b) (ho : ∀ b ∈ fp, ∃ o, s.heap.get? b = some o ∧ ∀ v, o.data ≠ .cell v) : Inv X (pins ++ pinsAt fp s.heap) σ H s :=
  I.pins_of fun p hp => (List.mem_append.mp hp).elim (fun z => I.pin p (List.mem_append_right _ z)) fun z => by
    obtain ⟨hb, e⟩ := of_pinsAt z
    obtain ⟨f0, f1, f2, _⟩ := hf p.1 hb
    obtain ⟨o, e', d⟩ := ho p.1 hb
    rw [e] at e'; cases e'
    exact ⟨e, f0, f1, f2, d⟩
theorem Inv.unpinned {pins pl : List (Addr × Obj)} {σ : St} {H : Hp} {s : Shared} (I : Inv X (pins ++ pl) σ H s) : Inv X pins σ H s := I.pins_of fun p hp => I.pin p (List.mem_append_right _ (List.mem_append_left _ hp))
theorem ps_for {iter : Expr} {body : List Stmt} {wi : TI} {g : TG} {tb : TS} {pos : Pos} (hp : PassesOwn (model X.prog X.w) X.A X.env X.xe) (hc : X.calm = true) (hi : PI X tg iter wi) (hg : PG X tg g) (hb : PSs X body tb)
    (hs : ∀ x, foldedSetIterable iter X.env x = pure x := by intro _; rfl) : PS X (.For tg iter body [] pos) (tFor wi g tb) := by
  intro pins s σ H D I h
  refine wpAny_For (thn (hi pins s σ H _ I h) fun v s1 h1 => thn h1 fun itv s2 h2 => ?_) hs
  obtain ⟨it, fp, tn, J, H2, e, I2, T, st2, f2, W, ⟨m0, w0⟩, turn⟩ := h2
  subst e
  -- what stays true of the iterator's objects through the loop
  have stat : ∀ {H' : Hp}, (∀ b ∈ fp, H' b = none) → ∀ b ∈ fp, FpOk X pins H' b := fun hn b hb => ⟨hn b hb, (f2 b hb).2⟩
  refine codeAny_forLoop_any (fun n s' => ∃ i σ' H', Inv X pins σ' H' s' ∧ tn i s'.heap ∧ (∀ b ∈ fp, H' b = none) ∧ W i n σ' H') ?_ m0 ⟨0, σ, H2, I2, st2, fun b hb => (f2 b hb).1, w0⟩
  rintro n s3 ⟨i, σ3, H3, I3, st3, fr3, w3⟩
  rcases turn i n σ3 H3 w3 with ⟨stop, qn⟩ | ⟨go, N, hN, step⟩
  · refine wpAny_passesOwn hp (thn (T.done X rfl rfl rfl hc i pins s3 σ3 H3 X.xe I3 (stat fr3) st3 stop) fun r s4 ⟨hr, I4⟩ => ?_)
    subst hr
    exact wpAny_execs_nil ⟨σ3, H3, I4, qn⟩
  · refine wpAny_passesOwn hp (thn (T.item X rfl rfl rfl hc i pins s3 σ3 H3 X.xe I3 (stat fr3) st3 go) fun r s4 ⟨u, hr, h4⟩ => ?_)
    subst hr
    refine wpAny_passesOwn hp (thn h4 fun _ s5 ⟨x, H5, I5, r5, y5, st5, fr5⟩ => ?_)
    have I5' := I5.pinned (stat fr5) (T.obj _ _ st5)
    refine wpAny_passesOwn hp (thn (hg _ s5 σ3 H5 x u _ I5' r5 (step x H5 y5)) fun _ s6 ⟨σ6, H6, I6, q6⟩ => ?_)
    refine wpAny_passesOwn hp (thn (hb _ s6 σ6 H6 _ I6 q6) fun f s7 q7 => ?_)
    have again : ∀ {σ7 : St} {H7 : Hp}, Inv X (pins ++ pinsAt fp s5.heap) σ7 H7 s7 → N σ7 H7 → ∃ m, m < n ∧ ∃ i σ' H', Inv X pins σ' H' s7 ∧ tn i s7.heap ∧ (∀ b ∈ fp, H' b = none) ∧ W i m σ' H' := fun {σ7 H7} I7 n7 => by
      obtain ⟨m', hm, w7⟩ := hN σ7 H7 n7
      refine ⟨m', hm, i + 1, σ7, H7, I7.unpinned, T.keep _ _ _ st5 fun b hb o e => (I7.pin (b, o) (List.mem_append_right _ (List.mem_append_right _ (mem_pinsAt hb e)))).1, fun b hb => ?_, w7⟩
      obtain ⟨o, e, d⟩ := T.obj _ _ st5 b hb
      exact (I7.pin (b, o) (List.mem_append_right _ (List.mem_append_right _ (mem_pinsAt hb e)))).2.1
    cases f with
    | next => obtain ⟨σ7, H7, I7, n7⟩ := q7; exact again I7 n7
    | cont => obtain ⟨σ7, H7, I7, n7⟩ := q7; exact again I7 n7
    | brk => obtain ⟨σ7, H7, I7, q7⟩ := q7; exact ⟨σ7, H7, I7.unpinned, q7⟩
    | ret v => obtain ⟨x7, σ7, H7, I7, r7, q7⟩ := q7; exact ⟨x7, σ7, H7, I7.unpinned, r7, q7⟩
end

/-! ### the forms one uses -/
/-- over a list that the body leaves as it is -/
theorem for_list {K : PySem.W.Frag} {a : Addr} {xs : List V} {g : TG} {tb : TS} {D : Ends} {σ : St} {H : Hp} (Pv : Nat → St → Hp → Prop) (h0 : Pv 0 σ H) (hl : ∀ i σ H, i ≤ xs.length → Pv i σ H → SqL K H a xs)
    (hs : ∀ i x σ H, xs[i]? = some x → Pv i σ H → g x σ H fun σ2 H2 => tb { D with nx := Pv (i + 1), ct := Pv (i + 1), bk := D.nx } σ2 H2) (hd : ∀ σ H, Pv xs.length σ H → D.nx σ H) :
    ∃ W : Nat → Nat → St → Hp → Prop, (∃ m, W 0 m σ H) ∧ ∀ i m σ H, W i m σ H →
      ((Itl K a).stop i H ∧ D.nx σ H) ∨ ((Itl K a).go i H ∧ ∃ N : St → Hp → Prop, (∀ σ' H', N σ' H' → ∃ m', m' < m ∧ W (i + 1) m' σ' H') ∧ ∀ x H', (Itl K a).yld i H x H' → g x σ H' fun σ2 H2 => tb { D with nx := N, ct := N, bk := D.nx } σ2 H2) := by
  refine ⟨fun i m σ H => m = xs.length - i ∧ i ≤ xs.length ∧ Pv i σ H, ⟨xs.length, by simp, Nat.zero_le _, h0⟩, ?_⟩
  rintro i m σ H ⟨rfl, hi, p⟩
  have q := hl i σ H hi p
  by_cases hlt : i < xs.length
  · refine .inr ⟨⟨xs, xs[i], q, by simp [hlt]⟩, Pv (i + 1), fun σ' H' p' => ⟨xs.length - (i + 1), by omega, rfl, hlt, p'⟩, fun x H' y => ?_⟩
    obtain ⟨e, y⟩ := y
    subst e
    exact hs i x σ _ (y xs q) p
  · have e : i = xs.length := by omega
    subst e
    exact .inl ⟨⟨xs, q, Nat.le_refl _⟩, hd σ H p⟩
theorem for_tup {K : PySem.W.Frag} {a : Addr} {xs : List V} {g : TG} {tb : TS} {D : Ends} {σ : St} {H : Hp} (Pv : Nat → St → Hp → Prop) (h0 : Pv 0 σ H) (hl : ∀ i σ H, i ≤ xs.length → Pv i σ H → SqT K H a xs)
    (hs : ∀ i x σ H, xs[i]? = some x → Pv i σ H → g x σ H fun σ2 H2 => tb { D with nx := Pv (i + 1), ct := Pv (i + 1), bk := D.nx } σ2 H2) (hd : ∀ σ H, Pv xs.length σ H → D.nx σ H) :
    ∃ W : Nat → Nat → St → Hp → Prop, (∃ m, W 0 m σ H) ∧ ∀ i m σ H, W i m σ H →
      ((Itt K a).stop i H ∧ D.nx σ H) ∨ ((Itt K a).go i H ∧ ∃ N : St → Hp → Prop, (∀ σ' H', N σ' H' → ∃ m', m' < m ∧ W (i + 1) m' σ' H') ∧ ∀ x H', (Itt K a).yld i H x H' → g x σ H' fun σ2 H2 => tb { D with nx := N, ct := N, bk := D.nx } σ2 H2) := by
  refine ⟨fun i m σ H => m = xs.length - i ∧ i ≤ xs.length ∧ Pv i σ H, ⟨xs.length, by simp, Nat.zero_le _, h0⟩, ?_⟩
  rintro i m σ H ⟨rfl, hi, p⟩
  have q := hl i σ H hi p
  by_cases hlt : i < xs.length
  · refine .inr ⟨⟨xs, xs[i], q, by simp [hlt]⟩, Pv (i + 1), fun σ' H' p' => ⟨xs.length - (i + 1), by omega, rfl, hlt, p'⟩, fun x H' y => ?_⟩
    obtain ⟨e, y⟩ := y
    subst e
    exact hs i x σ _ (y xs q) p
  · have e : i = xs.length := by omega
    subst e
    exact .inl ⟨⟨xs, q, Nat.le_refl _⟩, hd σ H p⟩
theorem for_range {lo : Int} {n : Nat} {g : TG} {tb : TS} {D : Ends} {σ : St} {H : Hp} (Pv : Nat → St → Hp → Prop) (h0 : Pv 0 σ H)
    (hs : ∀ i σ H, i < n → Pv i σ H → g (.int (lo + i)) σ H fun σ2 H2 => tb { D with nx := Pv (i + 1), ct := Pv (i + 1), bk := D.nx } σ2 H2) (hd : ∀ σ H, Pv n σ H → D.nx σ H) :
    ∃ W : Nat → Nat → St → Hp → Prop, (∃ m, W 0 m σ H) ∧ ∀ i m σ H, W i m σ H →
      ((Itr lo n).stop i H ∧ D.nx σ H) ∨ ((Itr lo n).go i H ∧ ∃ N : St → Hp → Prop, (∀ σ' H', N σ' H' → ∃ m', m' < m ∧ W (i + 1) m' σ' H') ∧ ∀ x H', (Itr lo n).yld i H x H' → g x σ H' fun σ2 H2 => tb { D with nx := N, ct := N, bk := D.nx } σ2 H2) := by
  refine ⟨fun i m σ H => m = n - i ∧ i ≤ n ∧ Pv i σ H, ⟨n, by simp, Nat.zero_le _, h0⟩, ?_⟩
  rintro i m σ H ⟨rfl, hi, p⟩
  by_cases hlt : i < n
  · refine .inr ⟨hlt, Pv (i + 1), fun σ' H' p' => ⟨n - (i + 1), by omega, rfl, hlt, p'⟩, fun x H' y => ?_⟩
    obtain ⟨e, y⟩ := y
    subst e y
    exact hs i σ _ hlt p
  · have e : i = n := by omega
    subst e
    exact .inl ⟨Nat.le_refl _, hd σ H p⟩
/-- while, by a word and a measure of the state -/
theorem while_by {c : TT} {tb : TS} {D : Ends} {σ : St} {H : Hp} (Pv : St → Hp → Prop) (μ : St → Hp → Nat) (h0 : Pv σ H)
    (hs : ∀ σ H, Pv σ H → c σ H fun b H1 => if b = true then tb { D with nx := fun σ' H' => Pv σ' H' ∧ μ σ' H' < μ σ H, ct := fun σ' H' => Pv σ' H' ∧ μ σ' H' < μ σ H, bk := D.nx } σ H1 else D.nx σ H1)
    (mono : ∀ σ H Q Q', (∀ b H1, Q b H1 → Q' b H1) → c σ H Q → c σ H Q') : tWhile c tb D σ H := by
  refine ⟨fun m σ H => m = μ σ H ∧ Pv σ H, ⟨_, rfl, h0⟩, ?_⟩
  rintro m σ H ⟨rfl, p⟩
  refine mono σ H _ _ (fun b H1 q => ?_) (hs σ H p)
  cases b with
  | true => exact ⟨_, fun σ' H' ⟨p', l⟩ => ⟨_, l, rfl, p'⟩, q⟩
  | false => exact q
end L2

namespace L2
open PySem PySem.Spec PyProof.Rows

abbrev R2 := V → V → Hp → VK → Prop
/-- a two-place operation on values: f is binaryOp op, inplaceOp op or compareOp op -/
def OpR (X : Cx) (f : Value → Value → Sem Value) (r : R2) : Prop :=
  ∀ (pins : List (Addr × Obj)) (s : Shared) (σ : St) (H : Hp) (x y : V) (v u : Value) (Q : VK), Inv X pins σ H s → RelV x v → RelV y u → r x y H Q →
    wpAny (model X.prog X.w) X.A (f v u) (EP X pins σ Q) X.xe s
/-- a one-place operation -/
def UnR (X : Cx) (f : Value → Sem Value) (r : V → Hp → VK → Prop) : Prop :=
  ∀ (pins : List (Addr × Obj)) (s : Shared) (σ : St) (H : Hp) (x : V) (v : Value) (Q : VK), Inv X pins σ H s → RelV x v → r x H Q →
    wpAny (model X.prog X.w) X.A (f v) (EP X pins σ Q) X.xe s
/-- a call of a value that is known (a builtin, a type) with values -/
def CallR (X : Cx) (f : Value) (r : List V → Hp → VK → Prop) : Prop :=
  ∀ (pins : List (Addr × Obj)) (s : Shared) (σ : St) (H : Hp) (xs : List V) (us : List Value) (Q : VK), Inv X pins σ H s → Vals xs us → r xs H Q →
    wpAny (model X.prog X.w) X.A (call f us) (EP X pins σ Q) X.xe s
/-- a value's truth -/
def TruR (X : Cx) (r : V → Hp → (Bool → Hp → Prop) → Prop) : Prop :=
  ∀ (pins : List (Addr × Obj)) (s : Shared) (σ : St) (H : Hp) (x : V) (v : Value) (Q : Bool → Hp → Prop), Inv X pins σ H s → RelV x v → r x H Q →
    wpAny (model X.prog X.w) X.A (truthy v) (TP X pins σ Q) X.xe s

def tOp (r : R2) (ta tb : TE) : TE := fun σ H Q => ta σ H fun x H1 => tb σ H1 fun y H2 => r x y H2 Q
def tUn (r : V → Hp → VK → Prop) (ta : TE) : TE := fun σ H Q => ta σ H fun x H1 => r x H1 Q
/-- ints in, under C, and a value out -/
def rI (C : Int → Int → Prop) (g : Int → Int → V) : R2 := fun x y H Q => ∃ i j, x = .int i ∧ y = .int j ∧ C i j ∧ Q (g i j) H
def rI0 (g : Int → Int → V) : R2 := fun x y H Q => ∃ i j, x = .int i ∧ y = .int j ∧ Q (g i j) H
def rU (g : Int → V) : V → Hp → VK → Prop := fun x H Q => ∃ i, x = .int i ∧ Q (g i) H

section
variable {X : Cx} {a b c : Expr} {ta tb tc : TE} {pos : Pos}

theorem binT (ha : PE X a ta) (hb : PE X b tb) {pins : List (Addr × Obj)} {s : Shared} {σ : St} {H : Hp} {R : V → V → Hp → Prop} (I : Inv X pins σ H s)
    (h : ta σ H fun x H1 => tb σ H1 fun y H2 => R x y H2) {Q : Value → Shared → Prop} {f : Value → Value → Sem Value}
    (hf : ∀ v u s2 x y H2, Inv X pins σ H2 s2 → RelV x v → RelV y u → R x y H2 → wpAny (model X.prog X.w) X.A (f v u) Q X.xe s2) :
    wpAny (model X.prog X.w) X.A (eval a X.env) (fun v s₁ => wpAny (model X.prog X.w) X.A (eval b X.env) (fun u s₂ => wpAny (model X.prog X.w) X.A (f v u) Q X.xe s₂) X.xe s₁) X.xe s := by
  refine thn (ha pins s σ H _ I h) fun v s1 ⟨x, H1, I1, r1, q1⟩ => ?_
  refine thn (hb pins s1 σ H1 _ I1 q1) fun u s2 ⟨y, H2, I2, r2, q2⟩ => ?_
  exact hf v u s2 x y H2 I2 r1 r2 q2

theorem pe_op {op : Operator} {r : R2} (ho : OpR X (binaryOp op) r) (ha : PE X a ta) (hb : PE X b tb) : PE X (.BinOp a op b pos) (tOp r ta tb) := by
  intro pins s σ H Q I h
  exact wpAny_BinOp (binT ha hb I h fun v u s2 x y H2 I2 rx ry q => ho pins s2 σ H2 x y v u Q I2 rx ry q)
theorem pe_un {op : UnaryOp} {r : V → Hp → VK → Prop} (ho : UnR X (unaryOp op) r) (ha : PE X a ta) : PE X (.UnaryOp op a pos) (tUn r ta) := by
  intro pins s σ H Q I h
  exact UnaryOp_ (thn (ha pins s σ H _ I h) fun v s1 ⟨x, H1, I1, r1, q1⟩ => ho pins s1 σ H1 x v Q I1 r1 q1)
/-! ### ints -/
theorem opI {f : Value → Value → Sem Value} {C : Int → Int → Prop} {g : Int → Int → Int}
    (rule : ∀ (i j : Int) (t u : Tok) (s : Shared) (Q : Value → Shared → Prop) (E : Value → Shared → Prop), C i j → Q (.int (g i j) s.toks) { s with toks := s.toks + 1 } → wpAny (model X.prog X.w) X.A (f (.int i t) (.int j u)) Q E s) :
    OpR X f (rI C fun i j => .int (g i j)) := by
  intro pins s σ H x y v u Q I rx ry h
  obtain ⟨i, j, rfl, rfl, hc, q⟩ := h
  obtain ⟨t, rfl⟩ := rx
  obtain ⟨t', rfl⟩ := ry
  exact rule i j t t' s _ _ hc ⟨.int (g i j), H, I.tok _, ⟨_, rfl⟩, q⟩
theorem opI0 {f : Value → Value → Sem Value} {g : Int → Int → Int}
    (rule : ∀ (i j : Int) (t u : Tok) (s : Shared) (Q : Value → Shared → Prop) (E : Value → Shared → Prop), Q (.int (g i j) s.toks) { s with toks := s.toks + 1 } → wpAny (model X.prog X.w) X.A (f (.int i t) (.int j u)) Q E s) :
    OpR X f (rI0 fun i j => .int (g i j)) := by
  intro pins s σ H x y v u Q I rx ry h
  obtain ⟨i, j, rfl, rfl, q⟩ := h
  obtain ⟨t, rfl⟩ := rx
  obtain ⟨t', rfl⟩ := ry
  exact rule i j t t' s _ _ ⟨.int (g i j), H, I.tok _, ⟨_, rfl⟩, q⟩
theorem opB0 {f : Value → Value → Sem Value} {g : Int → Int → Bool}
    (rule : ∀ (i j : Int) (t u : Tok) (s : Shared) (Q : Value → Shared → Prop) (E : Value → Shared → Prop), Q (.bool (g i j)) s → wpAny (model X.prog X.w) X.A (f (.int i t) (.int j u)) Q E s) :
    OpR X f (rI0 fun i j => .bl (g i j)) := by
  intro pins s σ H x y v u Q I rx ry h
  obtain ⟨i, j, rfl, rfl, q⟩ := h
  obtain ⟨t, rfl⟩ := rx
  obtain ⟨t', rfl⟩ := ry
  exact rule i j t t' s _ _ ⟨.bl (g i j), H, I, rfl, q⟩

def CDiv (i j : Int) : Prop := 0 < j ∧ j < 1073741824
def CPow (i j : Int) : Prop := 0 ≤ j ∧ j ≤ 1000000 ∧ i.natAbs < 2 ^ 64
def CMul (i j : Int) : Prop := (-(2 ^ 64) < i ∧ i < 2 ^ 64) ∨ (-(2 ^ 64) < j ∧ j < 2 ^ 64)
theorem CMul.ok {i j : Int} (h : CMul i j) : IntMulOk i j := by
  rcases h with ⟨h1, h2⟩ | ⟨h1, h2⟩
  · exact .of_left (intBits_le_64 h1 h2)
  · exact .of_right (intBits_le_64 h1 h2)
theorem op_add : OpR X (binaryOp .Add) (rI0 fun i j => .int (i + j)) := opI0 fun _ _ _ _ _ _ _ q => add_int q
theorem op_sub : OpR X (binaryOp .Sub) (rI0 fun i j => .int (i - j)) := opI0 fun _ _ _ _ _ _ _ q => sub_int q
theorem op_mul : OpR X (binaryOp .Mult) (rI CMul fun i j => .int (i * j)) := opI fun _ _ _ _ _ _ _ hc q => mul_int q hc.ok
/-- // by a positive divisor -/
theorem op_fdiv : OpR X (binaryOp .FloorDiv) (rI CDiv fun i j => .int (i / j)) := opI fun i j _ _ _ _ _ hc q => by
  have h1 : (0 : Int) < j := hc.1
  have h2 : j < 1073741824 := hc.2
  exact floordiv_int (by omega) (by rw [Int.fdiv_eq_ediv_of_nonneg i (by omega)]; exact q) (.inl (PyProof.noPylong_small (by omega)))
/-- % by a positive divisor of any size -/
theorem op_mod : OpR X (binaryOp .Mod) (rI (fun _ j => 0 < j) fun i j => .int (i % j)) := opI fun i j _ _ _ _ _ hc q => by
  have h1 : (0 : Int) < j := hc
  exact mod_int' (by omega) (by rw [Int.fmod_eq_emod_of_nonneg i (by omega)]; exact q)
theorem op_pow : OpR X (binaryOp .Pow) (rI CPow fun i j => .int (i ^ j.toNat)) := opI fun _ _ _ _ _ _ _ hc q => pow_int_small hc.1 hc.2.1 hc.2.2 q
theorem unI {f : Value → Sem Value} {g : Int → Int}
    (rule : ∀ (i : Int) (t : Tok) (s : Shared) (Q : Value → Shared → Prop) (E : Value → Shared → Prop), Q (.int (g i) s.toks) { s with toks := s.toks + 1 } → wpAny (model X.prog X.w) X.A (f (.int i t)) Q E s) :
    UnR X f (rU fun i => .int (g i)) := by
  intro pins s σ H x v Q I rx h
  obtain ⟨i, rfl, q⟩ := h
  obtain ⟨t, rfl⟩ := rx
  exact rule i t s _ _ ⟨.int (g i), H, I.tok _, ⟨_, rfl⟩, q⟩
theorem un_neg : UnR X (unaryOp .USub) (rU fun i => .int (-i)) := unI fun _ _ _ _ _ q => neg_int q
/-! ### bools among ints: n += (a < b) -/
end

/-! ### comparisons -/
/-- the scalars that == tells apart as data does -/
def scal : V → V → Bool
  | .non, .non => true | .non, .int _ => true | .int _, .non => true | .non, .bl _ => true | .bl _, .non => true | .non, .str _ => true | .str _, .non => true
  | .int _, .int _ => true | .bl _, .bl _ => true | .str _, .str _ => true | .byt _, .byt _ => true
  | .int _, .str _ => true | .str _, .int _ => true | .bl _, .str _ => true | .str _, .bl _ => true
  | _, _ => false
def rEq : R2 := fun x y H Q => scal x y = true ∧ Q (.bl (decide (x = y))) H
def rNe : R2 := fun x y H Q => scal x y = true ∧ Q (.bl (!decide (x = y))) H

theorem dec_int {i j : Int} : decide (V.int i = V.int j) = (i == j) := by
  rw [Bool.eq_iff_iff]
  simp
theorem dec_bl {i j : Bool} : decide (V.bl i = V.bl j) = (i == j) := by
  rw [Bool.eq_iff_iff]
  simp
theorem dec_str {i j : Str} : decide (V.str i = V.str j) = (i == j) := by
  rw [Bool.eq_iff_iff]
  simp
theorem dec_byt {i j : Array UInt8} : decide (V.byt i = V.byt j) = (i.toList == j.toList) := by
  rw [Bool.eq_iff_iff]
  cases i
  cases j
  simp

section
variable {X : Cx} {a b c : Expr} {ta tb tc : TE} {pos : Pos}
theorem fin_bl {pins : List (Addr × Obj)} {σ : St} {H : Hp} {s : Shared} {Q : VK} {k k' : Bool} (I : Inv X pins σ H s) (q : Q (.bl k) H) (e : k = k') : EP X pins σ Q (.bool k') s := by
  subst e
  exact ⟨.bl k, H, I, rfl, q⟩
theorem op_eq : OpR X (compareOp .Eq) rEq := by
  intro pins s σ H x y v u Q I rx ry h
  obtain ⟨hs, q⟩ := h
  cases x with
  | non =>
    cases rx
    cases y with
    | non => cases ry; exact PySem.EqNone.eq_none_none (fin_bl I q (by simp))
    | bl j => cases ry; exact PySem.EqNone.eq_none_bool (fin_bl I q (by simp))
    | int j => obtain ⟨t', rfl⟩ := ry; exact PySem.EqNone.eq_none_int (fin_bl I q (by simp))
    | str j => obtain ⟨t', rfl⟩ := ry; exact PySem.EqNone.eq_none_str (fin_bl I q (by simp))
    | _ => exact absurd (show false = true from hs) Bool.false_ne_true
  | bl i =>
    cases rx
    cases y with
    | non => cases ry; exact PySem.EqNone.eq_bool_none (fin_bl I q (by simp))
    | bl j => cases ry; exact eq_bool (fin_bl I q dec_bl)
    | str j => obtain ⟨t', rfl⟩ := ry; exact PySem.EqMixed.eq_bool_str (fin_bl I q (by simp))
    | _ => exact absurd (show false = true from hs) Bool.false_ne_true
  | int i =>
    obtain ⟨t, rfl⟩ := rx
    cases y with
    | non => cases ry; exact PySem.EqNone.eq_int_none (fin_bl I q (by simp))
    | int j => obtain ⟨t', rfl⟩ := ry; exact eq_int (fin_bl I q dec_int)
    | str j => obtain ⟨t', rfl⟩ := ry; exact PySem.EqMixed.eq_int_str (fin_bl I q (by simp))
    | _ => exact absurd (show false = true from hs) Bool.false_ne_true
  | str i =>
    obtain ⟨t, rfl⟩ := rx
    cases y with
    | non => cases ry; exact PySem.EqNone.eq_str_none (fin_bl I q (by simp))
    | bl j => cases ry; exact PySem.EqMixed.eq_str_bool (fin_bl I q (by simp))
    | int j => obtain ⟨t', rfl⟩ := ry; exact PySem.EqMixed.eq_str_int (fin_bl I q (by simp))
    | str j => obtain ⟨t', rfl⟩ := ry; exact eq_str (fin_bl I q dec_str)
    | _ => exact absurd (show false = true from hs) Bool.false_ne_true
  | byt i =>
    obtain ⟨t, rfl⟩ := rx
    cases y with
    | byt j => obtain ⟨t', rfl⟩ := ry; exact PySem.W.eq_bytes (fin_bl I q dec_byt)
    | _ => exact absurd (show false = true from hs) Bool.false_ne_true
  | _ => cases y <;> exact absurd (show false = true from hs) Bool.false_ne_true
theorem op_ne : OpR X (compareOp .NotEq) rNe := by
  intro pins s σ H x y v u Q I rx ry h
  obtain ⟨hs, q⟩ := h
  cases x with
  | non =>
    cases rx
    cases y with
    | non => cases ry; exact PySem.EqNone.ne_none_none (fin_bl I q (by simp))
    | bl j => cases ry; exact PySem.EqNone.ne_none_bool (fin_bl I q (by simp))
    | int j => obtain ⟨t', rfl⟩ := ry; exact PySem.EqNone.ne_none_int (fin_bl I q (by simp))
    | str j => obtain ⟨t', rfl⟩ := ry; exact PySem.EqNone.ne_none_str (fin_bl I q (by simp))
    | _ => exact absurd (show false = true from hs) Bool.false_ne_true
  | bl i =>
    cases rx
    cases y with
    | non => cases ry; exact PySem.EqNone.ne_bool_none (fin_bl I q (by simp))
    | bl j => cases ry; exact ne_bool (fin_bl I q (congrArg not dec_bl))
    | str j => obtain ⟨t', rfl⟩ := ry; exact PySem.EqMixed.ne_bool_str (fin_bl I q (by simp))
    | _ => exact absurd (show false = true from hs) Bool.false_ne_true
  | int i =>
    obtain ⟨t, rfl⟩ := rx
    cases y with
    | non => cases ry; exact PySem.EqNone.ne_int_none (fin_bl I q (by simp))
    | int j => obtain ⟨t', rfl⟩ := ry; exact ne_int (fin_bl I q (congrArg not dec_int))
    | str j => obtain ⟨t', rfl⟩ := ry; exact PySem.EqMixed.ne_int_str (fin_bl I q (by simp))
    | _ => exact absurd (show false = true from hs) Bool.false_ne_true
  | str i =>
    obtain ⟨t, rfl⟩ := rx
    cases y with
    | non => cases ry; exact PySem.EqNone.ne_str_none (fin_bl I q (by simp))
    | bl j => cases ry; exact PySem.EqMixed.ne_str_bool (fin_bl I q (by simp))
    | int j => obtain ⟨t', rfl⟩ := ry; exact PySem.EqMixed.ne_str_int (fin_bl I q (by simp))
    | str j => obtain ⟨t', rfl⟩ := ry; exact ne_str (fin_bl I q (congrArg not dec_str))
    | _ => exact absurd (show false = true from hs) Bool.false_ne_true
  | byt i =>
    obtain ⟨t, rfl⟩ := rx
    cases y with
    | byt j => obtain ⟨t', rfl⟩ := ry; exact PySem.W.ne_bytes (fin_bl I q (congrArg not dec_byt))
    | _ => exact absurd (show false = true from hs) Bool.false_ne_true
  | _ => cases y <;> exact absurd (show false = true from hs) Bool.false_ne_true

theorem op_lt : OpR X (compareOp .Lt) (rI0 fun i j => .bl (decide (i < j))) := opB0 fun _ _ _ _ _ _ _ q => lt_int q
theorem op_gt : OpR X (compareOp .Gt) (rI0 fun i j => .bl (decide (j < i))) := opB0 fun _ _ _ _ _ _ _ q => gt_int q
theorem op_ge : OpR X (compareOp .GtE) (rI0 fun i j => .bl (decide (j ≤ i))) := opB0 fun _ _ _ _ _ _ _ q => ge_int q
theorem nomark (b : Expr) {op : CmpOp} (h : op ≠ .In := by decide) (h2 : op ≠ .NotIn := by decide) : behindInMarks op b = false := by
  have e1 : (op == CmpOp.In) = false := by cases op <;> first | rfl | exact absurd rfl h
  have e2 : (op == CmpOp.NotIn) = false := by cases op <;> first | rfl | exact absurd rfl h2
  cases b <;> simp [behindInMarks, e1, e2]
/-- a comparison as a value; hm: nomark b, or (for in, not in) by with_unfolding_all rfl -/
theorem pe_cmpR {op : CmpOp} {r : R2} (ho : OpR X (compareOp op) r) (ha : PE X a ta) (hb : PE X b tb) (hm : behindInMarks op b = false) : PE X (.Compare a [op] [b] pos) (tOp r ta tb) := by
  intro pins s σ H Q I h
  exact wpAny_Compare1 (binT ha hb I h fun v u s2 x y H2 I2 rx ry q => ho pins s2 σ H2 x y v u Q I2 rx ry q) hm
/-- a reading of a value as a test -/
def tTest (t : TE) : TT := fun σ H Q => t σ H fun x H' => ∃ k, x = .bl k ∧ Q k H'
theorem pt_cmpR {op : CmpOp} {r : R2} (ho : OpR X (compareOp op) r) (ha : PE X a ta) (hb : PE X b tb) (hm : behindInMarks op b = false) : PT X (.Compare a [op] [b] pos) (tTest (tOp r ta tb)) := by
  intro pins s σ H Q I h
  refine wpAny_isTrue_Compare1 (thn (ha pins s σ H _ I h) fun v s1 ⟨x, H1, I1, r1, q1⟩ => thn (hb pins s1 σ H1 _ I1 q1) fun u s2 ⟨y, H2, I2, r2, q2⟩ =>
    thn (ho pins s2 σ H2 x y v u _ I2 r1 r2 q2) fun c s3 ⟨z, H3, I3, r3, k, e, q3⟩ => ?_) hm
  subst e
  cases r3
  exact wpAny_truthy_bool ⟨H3, I3, q3⟩
/-! ### truth -/
/-- a value's truth by the abstract heap -/
def TruV (K : PySem.W.Frag) (x : V) (H : Hp) (k : Bool) : Prop :=
  match x with
  | .non => k = false
  | .bl b => k = b
  | .int i => k = (i != 0)
  | .str y => y.length ≤ sizeLine ∧ k = ((y.length : Int) != 0)
  | .byt y => y.size ≤ sizeLine ∧ k = ((y.size : Int) != 0)
  | .ref p => (∃ xs, SqL K H p xs ∧ k = !xs.isEmpty) ∨ (∃ xs, SqT K H p xs ∧ k = !xs.isEmpty) ∨ ∃ kvs, H p = some (.dK kvs) ∧ k = !kvs.isEmpty
  | _ => False
theorem isEmpty_kv {κ : Type} {kvs : List (κ × V)} {vs : List (κ × Value)} (r : KV kvs vs) : (!vs.isEmpty) = !kvs.isEmpty := by
  cases r <;> rfl
theorem isEmpty_of {xs : List V} {its : List Value} (r : Vals xs its) : (!its.toArray.isEmpty) = !xs.isEmpty := by
  cases r <;> simp
theorem line63 : (sizeLine : Nat) < 2 ^ 63 := by rw [sizeLine_eq]; decide
theorem tru_ok : TruR X (fun x H Q => ∃ k, TruV X.K x H k ∧ Q k H) := by
  intro pins s σ H x v Q I rx h
  obtain ⟨k, e, q⟩ := h
  have hl := line63
  have hs : sizeLine = 16777216 := sizeLine_eq
  cases x with
  | non =>
    cases rx
    have e' : k = false := e
    subst e'
    exact truthy_none ⟨H, I, q⟩
  | bl b =>
    cases rx
    have e' : k = b := e
    subst e'
    exact wpAny_truthy_bool ⟨H, I, q⟩
  | int i =>
    obtain ⟨t, rfl⟩ := rx
    have e' : k = (i != 0) := e
    subst e'
    exact PySem.P.truthy_int ⟨H, I, q⟩
  | str y =>
    obtain ⟨t, rfl⟩ := rx
    obtain ⟨hy, e'⟩ : y.length ≤ sizeLine ∧ k = ((y.length : Int) != 0) := e
    subst e'
    exact PySem.P.truthy_str (by omega) ⟨H, I.tok _, q⟩
  | byt y =>
    obtain ⟨t, rfl⟩ := rx
    obtain ⟨hy, e'⟩ : y.size ≤ sizeLine ∧ k = ((y.size : Int) != 0) := e
    subst e'
    exact PySem.W.truthy_bytes (by omega) ⟨H, I.tok _, q⟩
  | ref p =>
    cases rx
    have e' : (∃ xs, SqL X.K H p xs ∧ k = !xs.isEmpty) ∨ (∃ xs, SqT X.K H p xs ∧ k = !xs.isEmpty) ∨ ∃ kvs, H p = some (.dK kvs) ∧ k = !kvs.isEmpty := e
    rcases e' with ⟨xs, hx, e'⟩ | ⟨xs, hx, e'⟩ | ⟨kvs, hx, e'⟩
    · subst e'
      obtain ⟨its, r, pl, hz⟩ := I.list hx
      have hlen := r.length
      exact wpAny_truthy_list pl.isList (by simp only [List.size_toArray]; omega) ⟨H, I.tok _, by rw [isEmpty_of r]; exact q⟩
    · subst e'
      obtain ⟨its, r, pl, hz⟩ := I.tuple hx
      have hlen := r.length
      exact truthy_tuple pl (by simp only [List.size_toArray]; omega) ⟨H, I.tok _, by rw [isEmpty_of r]; exact q⟩
    · subst e'
      obtain ⟨hz, hS, vs, r, m⟩ : kvs.length ≤ sizeLine ∧ (p == sysModules) = false ∧ ∃ vs, KV kvs vs ∧ s.heap.DictOf (mixKind X.prog X.w) p vs := I.hok p _ hx
      have hlen : kvs.length = vs.length := Paired.length r
      exact wpAny_truthy_dict hS m (by omega) ⟨H, I.tok _, by rw [isEmpty_kv r]; exact q⟩
  | _ => exact (show False from e).elim
/-- any expression whose test is its value's truth (a name, a call, a subscript, a field ..: he by fun _ => rfl) -/
theorem pt_truth (ha : PE X a ta) (he : ∀ whole, isTrue a X.env whole = (do let v ← whole; standAt a.pos; holding [v] (truthy v))) :
    PT X a (fun σ H Q => ta σ H fun x H' => ∃ k, TruV X.K x H' k ∧ Q k H') := by
  intro pins s σ H Q I h
  exact isTrue_plain (thn (ha pins s σ H _ I h) fun v s1 ⟨x, H1, I1, r1, q1⟩ => tru_ok pins s1 σ H1 x v Q I1 r1 q1) (he _)

/-! ### strs and bytes -/
/-! ### scalar builtins, by CallR -/
theorem vals1 {x : V} {us : List Value} (r : Vals [x] us) : ∃ u, us = [u] ∧ RelV x u := by
  cases r with
  | cons r1 r2 => cases r2; exact ⟨_, rfl, r1⟩
theorem vals2 {x y : V} {us : List Value} (r : Vals [x, y] us) : ∃ u w', us = [u, w'] ∧ RelV x u ∧ RelV y w' := by
  cases r with
  | cons r1 r2 =>
    cases r2 with
    | cons r3 r4 => cases r4; exact ⟨_, _, rfl, r1, r3⟩
theorem call_max2 (hc : X.calm = true) : CallR X (.builtin "max") (fun xs H Q => ∃ i j, xs = [.int i, .int j] ∧ Q (.int (if j > i then j else i)) H) := by
  intro pins s σ H xs us Q I r h
  obtain ⟨i, j, rfl, q⟩ := h
  obtain ⟨u, w', rfl, ⟨t, rfl⟩, ⟨t', rfl⟩⟩ := vals2 r
  refine max_two_ints (I.ok.hd hc) fun h' tk k => ⟨_, H, I.kept k, ?_, q⟩
  by_cases hj : j > i
  · rw [if_pos hj, if_pos hj]; exact ⟨_, rfl⟩
  · rw [if_neg hj, if_neg hj]; exact ⟨_, rfl⟩
theorem call_min2 (hc : X.calm = true) : CallR X (.builtin "min") (fun xs H Q => ∃ i j, xs = [.int i, .int j] ∧ Q (.int (if j < i then j else i)) H) := by
  intro pins s σ H xs us Q I r h
  obtain ⟨i, j, rfl, q⟩ := h
  obtain ⟨u, w', rfl, ⟨t, rfl⟩, ⟨t', rfl⟩⟩ := vals2 r
  refine min_two_ints (I.ok.hd hc) fun h' tk k => ⟨_, H, I.kept k, ?_, q⟩
  by_cases hj : j < i
  · rw [if_pos hj, if_pos hj]; exact ⟨_, rfl⟩
  · rw [if_neg hj, if_neg hj]; exact ⟨_, rfl⟩
theorem call_int1 : CallR X (.type "int") (fun xs H Q => (∃ i, xs = [.int i] ∧ Q (.int i) H) ∨ ∃ k, xs = [.bl k] ∧ Q (.int (if k then 1 else 0)) H) := by
  intro pins s σ H xs us Q I r h
  rcases h with ⟨i, rfl, q⟩ | ⟨k, rfl, q⟩
  · obtain ⟨u, rfl, t, rfl⟩ := vals1 r
    exact call_int_int ⟨.int i, H, I, ⟨_, rfl⟩, q⟩
  · obtain ⟨u, rfl, r1⟩ := vals1 r
    cases r1
    exact call_int_bool ⟨.int (if k then 1 else 0), H, I.tok _, ⟨_, rfl⟩, q⟩
end
end L2

namespace L2
open PySem PySem.Spec PyProof.Rows

/-! ### an instance, its attributes a map -/
structure ObjM (h : Heap) (x dx C : Addr) (mA : Str → Option Value) : Prop where
  obj : h.get? x = some (PySem.W.instObj C dx)
  ns : h.Ns1 dx mA
  ne : dx ≠ x

theorem lookIn_ns {h : Heap} {dx : Addr} {mA : Str → Option Value} (n : h.Ns1 dx mA) : ∃ od, h.get? dx = some od ∧ ∀ name, PySem.W.lookIn name od = some (mA name) := by
  obtain ⟨o, es, ep, ho, hd, hk, _, hm⟩ := n
  refine ⟨o, ho, fun name => ?_⟩
  have e := hm name
  unfold nsFind findBy at e
  rw [← Array.find?_toList] at e
  unfold PySem.W.lookIn
  rw [hd]
  dsimp only
  split
  · rename_i y q
    rw [q] at e
    exact congrArg some e
  · rename_i q
    rw [q] at e
    have a : es.toList.any (·.refKey) = false := by
      rw [List.any_eq_false]
      intro y hy
      obtain ⟨z, t, hkey⟩ := hk y (Array.mem_toList_iff.mp hy)
      simp [DictEntry.refKey, hkey]
    have a' : ¬ es.toList.any (·.refKey) = true := by rw [a]; exact Bool.false_ne_true
    rw [if_neg a']
    exact congrArg some e

theorem ObjM.look {h : Heap} {x dx C : Addr} {mA : Str → Option Value} (I : ObjM h x dx C mA) : ∃ od, PySem.W.InstAt h x (PySem.W.instObj C dx) C (some od) ∧ ∀ name, PySem.W.lookIn name od = some (mA name) :=
  let ⟨od, ho, hl⟩ := lookIn_ns I.ns
  ⟨od, ⟨I.obj, rfl, rfl, ho⟩, hl⟩

section
variable {prog : Program} {w : World} {A : Around} {E : Value → Shared → Prop} {s : Shared} {K : PySem.W.Frag} {x dx C f : Addr} {mA : Str → Option Value} {name : Str} {v : Value}

end

/-! ### the attributes as a list of pairs -/
theorem RelO.some_of {v : V} {o : Option Value} (r : RelO (some v) o) : ∃ u, o = some u ∧ RelV v u := by
  cases o with
  | none => exact (show False from r).elim
  | some u => exact ⟨u, rfl, r⟩
theorem RelO.none_of {o : Option Value} (r : RelO none o) : o = none := by
  cases o with
  | none => rfl
  | some u => exact (show False from r).elim
section
variable {P : Program} {w : World} {H H' : Hp} {h h' : Heap} {a C dx : Addr} {fs fs' : List (Str × V)}
theorem ins_get (hok : HOk P w H h) (e : H a = some (.ins C dx fs)) : ∃ mA, ObjM h a dx C mA ∧ (∀ f, RelO (fs.lookup f) (mA f)) ∧ PySem.Within mA (fs.map (·.1)) ∧ fs.length ≤ 1000 ∧ H dx = some (.own a) := by
  obtain ⟨d, z, ne, ob, mA, n, r, q⟩ := (show ObjOk P w H h a (.ins C dx fs) from hok a _ e)
  exact ⟨mA, ⟨ob, n, ne⟩, r, q, z, d⟩
end

/-! ### what of the text a class must have -/
structure Cls (K : PySem.W.Frag) (C : Addr) : Prop where
  pg : PySem.W.plainGet K C Str.empty = true
  hd : PySem.W.hasDictIn K C = true
  po : PySem.W.plainOver K C = true
  sa : PySem.W.findIn K (.ref C) "__setattr__" = some (some (.builtin "object.__setattr__"))
theorem Cls.get {K : PySem.W.Frag} {C : Addr} (c : Cls K C) (f : Str) : PySem.W.plainGet K C f = true := c.pg
/-- a constant of the class -/
structure Con (K : PySem.W.Frag) (C : Addr) (f : Str) (v : V) (u : Value) : Prop where
  at_ : PySem.W.findIn K (.ref C) f = some (some u)
  rel : RelV v u
  get : PySem.W.specialIn K u "__get__" = some none
  cp : PySem.W.copiedNames.contains f = false
/-- a method: a plain def of the class or of one above it -/
structure Meth (K : PySem.W.Frag) (C : Addr) (m : Str) (f : Addr) : Prop where
  at_ : PySem.W.findIn K (.ref C) m = some (some (.ref f))
  fn : PySem.W.isFn K (.ref f) = true
  kp : PySem.W.keepIn K (.ref f) = true

section
variable {X : Cx} {pins : List (Addr × Obj)} {σ : St} {H : Hp} {s : Shared} {a C dx : Addr} {fs : List (Str × V)} {f : Str} {v : V} {A : Around} {E : Value → Shared → Prop}

end

/-! ### readings and rules -/
section
variable {X : Cx} {o e value : Expr} {f : Str} {pos pos' tpos : Pos} {ta tv : TE}
end

/-! ### isinstance -/
section
variable {X : Cx} {pins : List (Addr × Obj)} {σ : St} {H : Hp} {s : Shared} {A : Around} {E : Value → Shared → Prop} {Q : Value → Shared → Prop} {c : Value} {b : Bool}
/-- the type of a value, as the fragment's deciders take it; for an instance its class -/
inductive TyOf (K : PySem.W.Frag) (H : Hp) : V → Value → Prop where
  | non : TyOf K H .non (.type "NoneType")
  | bl (x : Bool) : TyOf K H (.bl x) (.type "bool")
  | int (i : Int) : TyOf K H (.int i) (.type "int")
  | str (x : Str) : TyOf K H (.str x) (.type "str")
  | flt (x : UInt64) : TyOf K H (.flt x) (.type "float")
  | lst {a : Addr} {xs : List V} (e : H a = some (.lst xs)) : TyOf K H (.ref a) (.type "list")
  | frz {a : Addr} {o : Obj} {xs : List V} (e : H a = some (.frz o (.lst xs))) : TyOf K H (.ref a) (.type "list")
  | tup {a : Addr} {xs : List V} (e : H a = some (.tup xs)) : TyOf K H (.ref a) (.type "tuple")
  | dK {a : Addr} {kvs : List (Key × V)} (e : H a = some (.dK kvs)) : TyOf K H (.ref a) (.type "dict")
  | dT {a : Addr} {kvs : List (List Key × V)} (e : H a = some (.dT kvs)) : TyOf K H (.ref a) (.type "dict")
  | ins {a C dx : Addr} {fs : List (Str × V)} (e : H a = some (.ins C dx fs)) (cl : Cls K C) (ha : PySem.W.findIn K (.ref C) "__class__" = some (some (.builtin "object.__class__")))
      (hn : PySem.W.specialIn K (.builtin "object.__class__") "__get__" = some (some (.builtin "getset_descriptor.__get__"))) (htk : PySem.W.takesIn K (.builtin "object.__class__") = some true)
      (hm : PySem.W.mroIn K C (.type "object") = some true) : TyOf K H (.ref a) (.ref C)
/-- isinstance(x, c) for one class c, a built-in or an own one: kitOne's answer -/
theorem isinst_ok {x : V} {u t : Value} (I : Inv X pins σ H s) (rx : RelV x u) (ty : TyOf X.K H x t) (e : PySem.W.kitOne X.K t c = some b) (h : ∀ tk, Q (.bool b) { s with toks := tk }) :
    wpAny (model X.prog X.w) A (call (.builtin "isinstance") [u, c]) Q E s := by
  cases ty with
  | non => cases (show u = Value.none from rx); exact PySem.W.kia_one PySem.W.kitx_none I.kIn True.intro e (fun z => nomatch z) h
  | bl y => cases (show u = Value.bool y from rx); exact PySem.W.kia_one PySem.W.kitx_bool I.kIn True.intro e (fun z => nomatch z) h
  | int i => obtain ⟨t, q⟩ := (show ∃ t, u = Value.int i t from rx); cases q; exact PySem.W.kia_one PySem.W.kitx_int I.kIn True.intro e (fun z => nomatch z) h
  | str y => obtain ⟨t, q⟩ := (show ∃ t, u = Value.str y t from rx); cases q; exact PySem.W.kia_one PySem.W.kitx_str I.kIn True.intro e (fun z => nomatch z) h
  | flt y => obtain ⟨t, q⟩ := (show ∃ t, u = Value.float y t from rx); cases q; exact PySem.W.kia_one PySem.W.kitx_float I.kIn True.intro e (fun z => nomatch z) h
  | @lst a xs ea =>
    cases (show u = Value.ref a from rx)
    obtain ⟨_, _, n, _, h1⟩ := (show ObjOk X.prog X.w H s.heap a (.lst xs) from I.hok a _ ea)
    exact PySem.W.kia_one PySem.W.kitx_list I.kIn ⟨_, h1, rfl⟩ e (fun z => nomatch z) h
  | @frz a ob xs ea =>
    cases (show u = Value.ref a from rx)
    obtain ⟨_, _, _, n, _, h1⟩ := (show ObjOk X.prog X.w H s.heap a (.frz ob (.lst xs)) from I.hok a _ ea)
    exact PySem.W.kia_one PySem.W.kitx_list I.kIn ⟨_, h1, rfl⟩ e (fun z => nomatch z) h
  | @tup a xs ea =>
    cases (show u = Value.ref a from rx)
    obtain ⟨_, _, _, p⟩ := (show ObjOk X.prog X.w H s.heap a (.tup xs) from I.hok a _ ea)
    obtain ⟨o, h1, h2, _⟩ := p
    exact PySem.W.kia_one PySem.W.kitx_tuple I.kIn ⟨o, h1, h2⟩ e (fun z => nomatch z) h
  | @dK a kvs ea =>
    cases (show u = Value.ref a from rx)
    obtain ⟨_, _, vs, _, p⟩ := (show ObjOk X.prog X.w H s.heap a (.dK kvs) from I.hok a _ ea)
    obtain ⟨o, es, ep, h1, h2, _⟩ := p
    exact PySem.W.kia_one PySem.W.kitx_dict I.kIn ⟨o, h1, h2.1⟩ e (fun z => nomatch z) h
  | @dT a kvs ea =>
    cases (show u = Value.ref a from rx)
    obtain ⟨_, _, xs, _, o, es, ep, h1, h2, _⟩ := (show ObjOk X.prog X.w H s.heap a (.dT kvs) from I.hok a _ ea)
    exact PySem.W.kia_one PySem.W.kitx_dict I.kIn ⟨o, h1, h2.1⟩ e (fun z => nomatch z) h
  | @ins a C dx fs ea cl ha hn htk hm =>
    cases (show u = Value.ref a from rx)
    obtain ⟨mA, O, _⟩ := ins_get I.hok ea
    obtain ⟨od, J, _⟩ := O.look
    exact PySem.W.kia_one (PySem.W.kitx_own (cl.get _) cl.hd ha hn htk hm) I.kIn J e (fun z => nomatch z) h
end
end L2

namespace L2
open PySem PySem.Spec PyProof.Rows

/-! ### room -/
structure Room (k : Nat) (A : Around) : Prop where
  hd : A.handled = none
  dp : A.depth + 3 * k + 5 < recursionLimit
  un : A.units + 16 * k + 200 < cLine
theorem Room.mono {j k : Nat} {A : Around} (r : Room k A) (h : j ≤ k) : Room j A := ⟨r.hd, by have := r.dp; omega, by have := r.un; omega⟩
theorem Room.deeper {k : Nat} {A : Around} (r : Room (k + 1) A) (env : Env) : Room k (A.deeper env) :=
  ⟨r.hd, by have := r.dp; show A.depth + 1 + 3 * k + 5 < _; omega, by have := r.un; show A.units + 3 + 16 * k + 200 < _; omega⟩
theorem Room.in1 {k : Nat} {A : Around} (r : Room (k + 1) A) : Room k A.in1 :=
  ⟨r.hd, by have := r.dp; show A.depth + 3 * k + 5 < _; omega, by have := r.un; show A.units + 1 + 16 * k + 200 < _; omega⟩
theorem Room.depth {k : Nat} {A : Around} (r : Room k A) : A.depth < recursionLimit := by have := r.dp; omega
theorem Room.units {k : Nat} {A : Around} (r : Room k A) : A.units + 64 < cLine := by have := r.un; omega
theorem Room.units0 {k : Nat} {A : Around} (r : Room k A) : A.units < cLine := by have := r.un; omega

/-! ### argument lists and displays -/
def tNil : TA := fun _ H Q => Q [] H
def tCons (ta : TE) (tr : TA) : TA := fun σ H Q => ta σ H fun x H1 => tr σ H1 fun xs H2 => Q (x :: xs) H2
section
variable {X : Cx} {e : Expr} {es : List Expr} {te : TE} {t : TA} {pos : Pos}
theorem pa_nil : PA X [] tNil := fun _ _ _ _ H Q I h => Calls.spliced_nil ⟨[], H, I, .nil, h⟩
theorem pa_cons (ha : PE X e te) (hr : PA X es t) (hs : starEach (e :: es) X.env = (false, eval e X.env) :: starEach es X.env := by rfl) : PA X (e :: es) (tCons te t) := by
  intro pos pins s σ H Q I h
  rw [hs]
  show wpAny _ _ (spliced ((false, eval e X.env) :: backTo pos (starEach es X.env))) _ _ s
  refine Calls.spliced_cons (thn (ha pins s σ H _ I h) fun u s1 ⟨x, H1, I1, r1, q1⟩ => ?_)
  exact thn (hr pos pins s1 σ H1 _ I1 q1) fun us s2 ⟨xs, H2, I2, r2, q2⟩ => ⟨x :: xs, H2, I2, .cons r1 r2, q2⟩

/-- a tuple, a list of written items -/
def tTup (t : TA) : TE := fun σ H Q => t σ H fun xs H1 => xs.length ≤ sizeLine ∧ ∀ p, H1 p = none → Q (.ref p) (upd H1 p (.tup xs))
def tLst (t : TA) : TE := fun σ H Q => t σ H fun xs H1 => xs.length ≤ sizeLine ∧ ∀ p, H1 p = none → Q (.ref p) (upd H1 p (.lst xs))
theorem pe_tup {x1} (h : PA X es t) : PE X (.Tuple es x1 pos) (tTup t) := by
  intro pins s σ H Q I hq
  refine wpAny_Tuple_spliced (thn (h pos pins s σ H _ I hq) fun us s1 ⟨xs, H1, I1, r, z, q⟩ => ⟨by rw [← r.length]; exact z, ?_⟩)
  have hf : H1 s1.heap.objs.size = none := I1.hok.fresh (Nat.le_refl _)
  refine ⟨.ref s1.heap.objs.size, upd H1 s1.heap.objs.size (.tup xs), I1.laid (t' := s1.toks) (fun b u e => Heap.get?_push_of_some _ e) (Nat.le_refl _) ?_, rfl, q _ hf⟩
  exact ⟨z, us, r, ⟨_, Heap.get?_push_size _ rfl, rfl, _, rfl⟩⟩
theorem pe_lst (h : PA X es t) : PE X (.List es pos) (tLst t) := by
  intro pins s σ H Q I hq
  refine wpAny_List_spliced (thn (h pos pins s σ H _ I hq) fun us s1 ⟨xs, H1, I1, r, z, q⟩ => ⟨by rw [← r.length]; exact z, ?_⟩)
  have hf : H1 s1.heap.objs.size = none := I1.hok.fresh (Nat.le_refl _)
  refine ⟨.ref s1.heap.objs.size, upd H1 s1.heap.objs.size (.lst xs), I1.laid (t' := s1.toks) (fun b u e => Heap.get?_push_of_some _ e) (Nat.le_refl _) ?_, rfl, q _ hf⟩
  exact ⟨z, us, 0, r, Heap.get?_push_size _ rfl⟩
end

/-! ### what a def promises -/
/-- a def's promise: the bound arguments in the parameters' order, the heap, the wanted end, the wanted exception -/
abbrev Sp := List V → Hp → VK → XK → Prop
/-- how an exception lies behind a call (file 08 gives it): the callers' frames, abstract heap and state ahead of the call, the wish, the exception, the state -/
abbrev CXT := List Env → Hp → Shared → XK → Value → Shared → Prop

/-- the state at a call -/
structure Env0 (P : Program) (w : World) (K : PySem.W.Frag) (mg : Str → Option Value) (base : Heap) (A : Around) (outer : List Env) (s : Shared) (H : Hp) : Prop where
  frames : A.frames = some outer
  mod : Mod K mg base
  bs : ∀ b o, base.get? b = some o → s.heap.get? b = some o ∧ H b = none
  bsz : base.objs.size ≤ s.heap.objs.size
  funs : s.heap.FunFrames base outer
  frf : ∀ b ∈ frs outer, H b = none
  hok : HOk P w H s.heap
  bare : AllBare s.gens
/-- a call's end -/
def CE (outer : List Env) (P : Program) (w : World) (H : Hp) (s : Shared) (Q : VK) (u : Value) (s' : Shared) : Prop :=
  ∃ v H', s'.os = s.os ∧ AllBare s'.gens ∧ Un (frs outer) [] H H' s.heap s'.heap ∧ HOk P w H' s'.heap ∧ RelV v u ∧ Q v H'
def CR (CX : CXT) (outer : List Env) (P : Program) (w : World) (H : Hp) (s : Shared) (Q : VK) (E : XK) (r : Result) (s' : Shared) : Prop :=
  match r with
  | .ok (.ret u) => CE outer P w H s Q u s'
  | .ok _ => False
  | .error e => CX outer H s E e s'
structure FnOk (P : Program) (w : World) (K : PySem.W.Frag) (mg : Str → Option Value) (base : Heap) (CX : CXT) (k : Nat) (f : Addr) (fd : FuncData) (ps : List Str) (sp : Sp) : Prop where
  len : ∀ vs H Q E, sp vs H Q E → vs.length = ps.length
  run : ∀ (A : Around) (outer : List Env) (s : Shared) (H : Hp) (args : Args) (us : List Value) (vs : List V) (Q : VK) (E : XK), Room k A → Env0 P w K mg base A outer s H → BindsTo s fd args (ps.zip us) → Vals vs us → sp vs H Q E →
    codeAny (model P w) A (.call (.ref f) args) (CR CX outer P w H s Q E) s
theorem FnOk.mono {P : Program} {w : World} {K : PySem.W.Frag} {mg : Str → Option Value} {base : Heap} {CX : CXT} {j k : Nat} {f : Addr} {fd : FuncData} {ps : List Str} {sp : Sp} (F : FnOk P w K mg base CX j f fd ps sp) (h : j ≤ k) :
    FnOk P w K mg base CX k f fd ps sp := ⟨F.len, fun A outer s H args us vs Q E hr => F.run A outer s H args us vs Q E (hr.mono h)⟩
/-- a weaker promise -/
theorem FnOk.imp {P : Program} {w : World} {K : PySem.W.Frag} {mg : Str → Option Value} {base : Heap} {CX : CXT} {k : Nat} {f : Addr} {fd : FuncData} {ps : List Str} {sp sp' : Sp} (F : FnOk P w K mg base CX k f fd ps sp)
    (h : ∀ vs H Q E, sp' vs H Q E → sp vs H Q E) : FnOk P w K mg base CX k f fd ps sp' :=
  ⟨fun vs H Q E q => F.len vs H Q E (h _ _ _ _ q), fun A outer s H args us vs Q E hr he hb hv hs => F.run A outer s H args us vs Q E hr he hb hv (h _ _ _ _ hs)⟩

theorem Env0.in1 {P : Program} {w : World} {K : PySem.W.Frag} {mg : Str → Option Value} {base : Heap} {A : Around} {outer : List Env} {s : Shared} {H : Hp} (e : Env0 P w K mg base A outer s H) :
    Env0 P w K mg base A.in1 outer s H := ⟨e.frames, e.mod, e.bs, e.bsz, e.funs, e.frf, e.hok, e.bare⟩

section
variable {X : Cx} {pins : List (Addr × Obj)} {σ : St} {H : Hp} {s s' : Shared}
/-- from a body: what a callee wants -/
theorem Inv.env0 (I : Inv X pins σ H s) : Env0 X.prog X.w X.K X.mg X.base X.A X.stack s H :=
  ⟨I.ok.frames, I.ok.mod, I.bs, Nat.le_trans I.ok.bsz I.sz, I.stack, I.stkFree, I.hok, I.bare⟩
/-- behind a call -/
theorem Inv.after {Q : VK} {u : Value} (I : Inv X pins σ H s) (h : CE X.stack X.prog X.w H s Q u s') : EP X pins σ Q u s' := by
  obtain ⟨v, H', os, bare, un, hok, r, q⟩ := h
  obtain ⟨hh, g, d, t, os'⟩ := s'
  obtain rfl : os' = s.os := os
  exact ⟨v, H', I.call (h' := hh) (g' := g) (d' := d) (t' := t) (ch := []) un hok bare (fun b z => absurd z (by simp)), r, q⟩
end

/-! ### calls -/
/-- f(..): the written arguments, then the defaults dvs; E: what is wanted of an exception -/
def tCall (sp : Sp) (dvs : List V) (E : XK) (t : TA) : TE := fun σ H Q => t σ H fun vs H1 => sp (vs ++ dvs) H1 Q E
/-- how the parameters are bound: us the positional arguments, kw the keywords' values by name, ds the defaults that fill up -/
def Binds (K : PySem.W.Frag) (fd : FuncData) (ps : List Str) (ds : List Value) : Prop :=
  ∀ (s : Shared) (us : List Value), K.In s.heap → (us ++ ds).length = ps.length → BindsTo s fd ⟨us, []⟩ (ps.zip (us ++ ds))
/-- every parameter is given -/
theorem Binds.all {K : PySem.W.Frag} {fd : FuncData} {ps : List Str} (h : ∀ us : List Value, us.length = ps.length → bindArgs fd ⟨us, []⟩ = pure (ps.zip us)) : Binds K fd ps [] := fun s us _ hl => by
  rw [List.append_nil] at hl ⊢
  exact .of_eq (h us hl)

/-- an exception of a callee reaches what this body wants of exceptions -/
def Passes (CX : CXT) (X : Cx) (E : XK) : Prop := ∀ (pins : List (Addr × Obj)) (σ : St) (H : Hp) (s : Shared) (e : Value) (s' : Shared), Inv X pins σ H s → CX X.stack H s E e s' → X.xe e s'

section
variable {X : Cx} {CX : CXT} {k : Nat} {f C : Addr} {fd : FuncData} {ps : List Str} {sp : Sp} {dvs : List V} {ds : List Value} {E : XK} {x m : Str} {p pos apos : Pos} {e o : Expr} {es : List Expr} {ta : TE} {t : TA}

/-- the callee runs -/
theorem run_fn {pins : List (Addr × Obj)} {σ : St} {H : Hp} {s : Shared} {Q : VK} {us : List Value} {vs : List V} (F : FnOk X.prog X.w X.K X.mg X.base CX k f fd ps sp) (hr : Room k X.A) (hb : Binds X.K fd ps ds) (hd : Vals dvs ds) (hx : Passes CX X E)
    (I : Inv X pins σ H s) (r : Vals vs us) (h : sp (vs ++ dvs) H Q E) : wpAny (model X.prog X.w) X.A (call (.ref f) us) (EP X pins σ Q) X.xe s := by
  have r2 : Vals (vs ++ dvs) (us ++ ds) := r.append hd
  have hl : (us ++ ds).length = ps.length := by rw [← r2.length]; exact F.len _ _ _ _ h
  refine wpAny_call (codeAny_mono (F.run X.A X.stack s H ⟨us, []⟩ (us ++ ds) (vs ++ dvs) Q E hr I.env0 (hb s us I.kIn hl) r2 h) fun r s' hq => ?_)
  cases r with
  | error e => exact hx pins σ H s e s' I hq
  | ok fl =>
    cases fl with
    | ret u => exact I.after hq
    | next => exact False.elim hq
    | brk => exact False.elim hq
    | cont => exact False.elim hq

theorem pe_call (F : FnOk X.prog X.w X.K X.mg X.base CX k f fd ps sp) (hr : Room k X.A) (hg : Gl X x) (hm : X.mg x = some (.ref f)) (hk : PySem.W.keepIn X.K (.ref f) = true) (hb : Binds X.K fd ps ds) (hd : Vals dvs ds) (hx : Passes CX X E)
    (ha : PA X (e :: es) t) (hdb : (x == ("__debug__" : Str)) = false := by decide) (he : starEach (e :: es) X.env = (false, eval e X.env) :: starEach es X.env := by rfl) (hpl : (backTo pos (starEach es X.env)).any (·.1) = false := by rfl) :
    PE X (.Call (.Name x p) (e :: es) [] pos) (tCall sp dvs E t) := by
  intro pins s σ H Q I h
  refine wpAny_Call_Name_kw (ld_glob I hg hm ?_ hdb)
  refine PySem.W.callWith_K (h₀ := X.base) I.ok.mod.kin hk (thn (ha pos pins s σ H _ I h) fun us s1 ⟨vs, H1, I1, r, q⟩ => ⟨I1.kIn, ?_⟩) he hpl
  exact run_fn F hr hb hd hx I1 r q
/-- what a class must have to be made -/
structure Mk (K : PySem.W.Frag) (C f : Addr) : Prop where
  makes : PySem.W.makesIn K C = true
  init : PySem.W.findIn K (.ref C) "__init__" = some (some (.ref f))
  fn : PySem.W.isFn K (.ref f) = true
  kp : PySem.W.keepIn K (.ref C) = true

end

/-! ### keywords -/
section
variable {X : Cx} {CX : CXT} {k : Nat} {f C : Addr} {fd : FuncData} {ps ks : List Str} {sp : Sp} {E : XK} {x m : Str} {p pos apos kpos : Pos} {e o : Expr} {es : List Expr} {kws : List Keyword} {te ta : TE} {t tk : TA} {nm : Option Str}
/-- how a call with keywords binds: g puts the positional values us and the keywords' values ws (names ks) in the parameters' order, defaults among them -/
structure KBinds (K : PySem.W.Frag) (fd : FuncData) (ps ks : List Str) (g : List Value → List Value → List Value) (gV : List V → List V → List V) : Prop where
  to : ∀ (s : Shared) (us ws : List Value), K.In s.heap → (g us ws).length = ps.length → BindsTo s fd ⟨us, ks.zip ws⟩ (ps.zip (g us ws))
  rel : ∀ {vs : List V} {us : List Value} {zs : List V} {ws : List Value}, Vals vs us → Vals zs ws → Vals (gV vs zs) (g us ws)
variable {g : List Value → List Value → List Value} {gV : List V → List V → List V}
end

/-! ### a def's body keeps its promise -/
/-- names: the parameters first -/
structure FnScope (N P : List Str) (sc : Scope) : Prop where
  kind : sc.kind = .function
  co : sc.isCoroutine = false
  gen : sc.isGenerator = false
  nd : N.Nodup
  pre : N.take P.length = P
  par : ∀ x ∈ P, sc.names.lookup x = some .local ∨ sc.names.lookup x = some .cell
  nofree : ∀ y ∈ sc.names, y.2 ≠ .free

theorem bindL_out {kindOf : Str → Option NameKind} {x : Str} : ∀ {binds : List (Str × Value)} {m : Str → Option Value}, (∀ v, (x, v) ∉ binds) → bindL kindOf binds m x = m x
  | [], _, _ => rfl
  | (n, v) :: r, m, h => by
    unfold bindL
    rw [bindL_out fun w hw => h w (List.mem_cons_of_mem _ hw)]
    split
    · have : x ≠ n := by rintro rfl; exact h v List.mem_cons_self
      simp [this]
    · rfl
theorem bindC_out {kindOf : Str → Option NameKind} {x : Str} : ∀ {binds : List (Str × Value)} {m : Str → Option Value}, (∀ v, (x, v) ∉ binds) → bindC kindOf binds m x = m x
  | [], _, _ => rfl
  | (n, v) :: r, m, h => by
    unfold bindC
    rw [bindC_out fun w hw => h w (List.mem_cons_of_mem _ hw)]
    split
    · rfl
    · have : x ≠ n := by rintro rfl; exact h v List.mem_cons_self
      simp [this]
theorem bindL_get {kindOf : Str → Option NameKind} {x : Str} {v : Value} : ∀ {P : List Str} {vs : List Value} {i : Nat} {m : Str → Option Value}, P.Nodup → P[i]? = some x → vs[i]? = some v → kindOf x = some .local →
    bindL kindOf (P.zip vs) m x = some v
  | [], _, _, _, _, h, _, _ => by simp at h
  | _ :: _, [], _, _, _, _, h, _ => by simp at h
  | p :: P, w :: vs, 0, m, nd, h1, h2, hk => by
    simp at h1 h2; subst h1; subst h2
    show bindL kindOf ((p, w) :: P.zip vs) m p = _
    unfold bindL
    rw [bindL_out fun v hv => (List.nodup_cons.mp nd).1 (List.of_mem_zip hv).1, if_pos hk]
    simp
  | p :: P, w :: vs, i + 1, m, nd, h1, h2, hk => by
    show bindL kindOf ((p, w) :: P.zip vs) m x = _
    unfold bindL
    exact bindL_get (i := i) (List.nodup_cons.mp nd).2 (by simpa using h1) (by simpa using h2) hk
theorem bindC_get {kindOf : Str → Option NameKind} {x : Str} {v : Value} : ∀ {P : List Str} {vs : List Value} {i : Nat} {m : Str → Option Value}, P.Nodup → P[i]? = some x → vs[i]? = some v → kindOf x ≠ some .local →
    bindC kindOf (P.zip vs) m x = some v
  | [], _, _, _, _, h, _, _ => by simp at h
  | _ :: _, [], _, _, _, _, h, _ => by simp at h
  | p :: P, w :: vs, 0, m, nd, h1, h2, hk => by
    simp at h1 h2; subst h1; subst h2
    show bindC kindOf ((p, w) :: P.zip vs) m p = _
    unfold bindC
    rw [bindC_out fun v hv => (List.nodup_cons.mp nd).1 (List.of_mem_zip hv).1, if_neg hk]
    simp
  | p :: P, w :: vs, i + 1, m, nd, h1, h2, hk => by
    show bindC kindOf ((p, w) :: P.zip vs) m x = _
    unfold bindC
    exact bindC_get (i := i) (List.nodup_cons.mp nd).2 (by simpa using h1) (by simpa using h2) hk

/-- the names' values at the entry -/
def start (N : List Str) (vs : List V) : St := vs.map some ++ List.replicate (N.length - vs.length) none

/-- the context of a def's body, at its entry; an exception leaves the frame, then lies as CX says -/
def cxOf (CX : CXT) (P : Program) (w : World) (K : PySem.W.Frag) (mg : Str → Option Value) (base : Heap) (N : List Str) (qual : Str) (scope : Scope) (f : Addr) (cd : Value) (A : Around) (outer : List Env) (s : Shared) (H : Hp) (E : XK) : Cx where
  prog := P
  w := w
  K := K
  mg := mg
  base := base
  A := A.deeper (envOfC qual scope s.heap.objs.size f cd)
  N := N
  s₀ := s
  H₀ := H
  env := envOfC qual scope s.heap.objs.size f cd
  outer := outer
  stack := envOfC qual scope s.heap.objs.size f cd :: outer
  ex := []
  calm := true
  fn := fun _ => true
  pn := []
  xe := fun e s' => wpAny (model P w) (A.deeper (envOfC qual scope s.heap.objs.size f cd)) (leaving (envOfC qual scope s.heap.objs.size f cd) e) (fun _ s'' => CX outer H s E e s'') (fun e' s'' => CX outer H s E e' s'') s'

theorem cell_has {sc : Scope} {n : Nat} {x : Str} (h : sc.names.lookup x = some .cell) : ∃ c, (cellsFrom n sc.names []).lookup x = some c := by
  have q := PySem.W.cellsFrom_some sc.names n [] (.inl h)
  exact Option.isSome_iff_exists.mp q

theorem inv_start {CX : CXT} {P : Program} {w : World} {K : PySem.W.Frag} {mg : Str → Option Value} {base : Heap} {N ps : List Str} {qual : Str} {scope : Scope} {f : Addr} {cd : Value} {A : Around} {outer : List Env} {s s1 : Shared} {H : Hp} {E : XK} {us : List Value} {vs : List V}
    (S : FnScope N ps scope) (hd : A.handled = none) (e0 : Env0 P w K mg base A outer s H) (hl : vs.length = ps.length) (r : Vals vs us)
    (x : InCallC s s.heap.objs.size (bindL (envOfC qual scope s.heap.objs.size f cd).kindOf (ps.zip us) fun _ => none) (cellsFrom (s.heap.objs.size + 1) scope.names []) (bindC (envOfC qual scope s.heap.objs.size f cd).kindOf (ps.zip us) fun _ => none) s1) :
    Inv (cxOf CX P w K mg base N qual scope f cd A outer s H E) [] (start N vs) H s1 := by
  have hpl : ps.length ≤ N.length := by have := congrArg List.length S.pre; rw [List.length_take] at this; omega
  obtain ⟨h1, tk, rfl, hk⟩ := x.done
  have noA : ∀ b : Addr, b ∉ (cxOf CX P w K mg base N qual scope f cd A outer s H E).ex := fun b z => absurd (show b ∈ ([] : List Addr) from z) (by simp)
  refine ⟨⟨e0.mod, S.kind, rfl, rfl, Nat.le_refl _, fun y z c h1 h2 => ?_, fun y hy => ?_, fun y c _ h => ?_, fun _ => hd, Around.frames_deeper e0.frames, .inr ⟨rfl, rfl⟩, fun b z => absurd z (noA b), e0.bs, e0.bsz, fun b _ _ => noA b, fun b z => absurd z (noA b), e0.funs, e0.frf⟩,
    rfl, e0.bare, Un.kept hk, ⟨_, x.toInCall.ns, fun i y v h1 h2 h3 => ?_⟩, fun y c h => ⟨_, x.cell y c h⟩, e0.hok.fresh (Nat.le_refl _), fun y c h => ?_, fun p hp => absurd (show p ∈ ([] : List (Addr × Obj)) from hp) (by simp), e0.hok.kept hk, ?_⟩
  · exact name_of_addr x.apart (PySem.mem_of_lookup h1) (PySem.mem_of_lookup h2)
  · have hy : scope.names.lookup y = some .cell ∨ scope.names.lookup y = some .free := hy
    rcases hy with hy | hy
    · exact cell_has hy
    · exact absurd rfl (S.nofree _ (PySem.mem_of_lookup hy))
  · exact Nat.le_of_lt (x.above y c (PySem.mem_of_lookup h))
  · have hi : i < vs.length := by
      unfold start at h2
      by_cases hi : i < vs.length
      · exact hi
      · rw [List.getElem?_append_right (by simpa using hi)] at h2
        rw [List.getElem?_replicate] at h2
        split at h2 <;> cases h2
    have ha : vs[i]? = some v := by
      unfold start at h2
      rw [List.getElem?_append_left (by simpa using hi), List.getElem?_map] at h2
      cases e : vs[i]? with
      | none => rw [e] at h2; cases h2
      | some a => rw [e] at h2; cases h2; rfl
    obtain ⟨u, hu, rv⟩ := r.get ha
    have hp : ps[i]? = some y := by
      rw [← S.pre, List.getElem?_take_of_lt (by omega)]; exact h1
    have ndP : ps.Nodup := by rw [← S.pre]; exact S.nd.sublist (List.take_sublist _ _)
    refine ⟨u, rv, ?_⟩
    rcases S.par y (List.mem_of_getElem? hp) with k | k
    · exact .inl ⟨k, bindL_get ndP hp hu k⟩
    · obtain ⟨c, e⟩ := cell_has (n := s.heap.objs.size + 1) k
      refine .inr ⟨.inl k, c, e, ?_⟩
      have q := x.cell y c e
      rw [bindC_get ndP hp hu (by show scope.names.lookup y ≠ _; rw [k]; decide)] at q
      exact q
  · exact e0.hok.fresh (Nat.le_of_lt (x.above y c (PySem.mem_of_lookup h)))
  · unfold start
    show _ = N.length
    rw [List.length_append, List.length_map, List.length_replicate]
    omega

/-- THE RULE: a def (or a method) of the text, by its body. The body's reading t is chosen for each entry; it is run at the parameters' values -/
theorem fn_of {CX : CXT} {P : Program} {w : World} {K : PySem.W.Frag} {mg : Str → Option Value} {base : Heap} {k : Nat} {f : Addr} {name qual : Str} {params : Arguments} {body : List Stmt} {scope : Scope} {dV kV doc pm cdv ct oc : Value} {an od : Option Addr}
    {osl : Array (Option Value)} {N ps : List Str} {sp : Sp} (lk : K.lookup f = some ⟨oc, od, .func (PySem.W.fnOf name qual params body scope dV kV doc pm an cdv ct), osl⟩) (hcd : PySem.W.codeIn K cdv qual = true) (S : FnScope N ps scope)
    (len : ∀ vs H Q E, sp vs H Q E → vs.length = ps.length)
    (hbody : ∀ (A : Around) (outer : List Env) (s : Shared) (H : Hp) (vs : List V) (Q : VK) (E : XK), Room k (A.deeper (envOfC qual scope s.heap.objs.size f cdv)) → sp vs H Q E →
      ∃ t, PSs (cxOf CX P w K mg base N qual scope f cdv A outer s H E) body t ∧ t { nx := fun _ H' => Q .non H', rt := Q } (start N vs) H) :
    FnOk P w K mg base CX (k + 1) f (PySem.W.fnOf name qual params body scope dV kV doc pm an cdv ct) ps sp := by
  refine ⟨len, fun A outer s H args us vs Q E hr e0 hb r hsp => ?_⟩
  have hl := len _ _ _ _ hsp
  have KX : K.In s.heap := e0.mod.kin.keeps fun b o e => (e0.bs b o e).1
  have lim : s.heap.NoLimit := e0.mod.nolimit.keeps fun b o e => (e0.bs b o e).1
  have hkind : ∀ y ∈ ps.zip us, scope.names.lookup y.1 = some .local ∨ (scope.names.lookup y.1 = some .cell ∧ ((cellsFrom (s.heap.objs.size + 1) scope.names []).lookup y.1).isSome = true) := fun ⟨n, v⟩ hy => by
    rcases S.par n (List.of_mem_zip hy).1 with q | q
    · exact .inl q
    · exact .inr ⟨q, PySem.W.cellsFrom_some _ _ _ (.inl q)⟩
  refine codeAny_call_function hr.depth (KX _ _ lk) rfl S.co S.gen rfl (PySem.W.codeRec_of KX hcd) (hb _ _ _ _ ?_)
  refine wpAny_newFunctionEnv_cells S.kind hkind fun env he s1 x => ?_
  subst he
  refine ⟨lim.keeps x.toInCall.keep, codeAny_func ?_⟩
  obtain ⟨t, ht, hq⟩ := hbody A outer s H vs Q E (hr.deeper _) hsp
  have I : Inv (cxOf CX P w K mg base N qual scope f cdv A outer s H E) [] (start N vs) H s1 := inv_start S hr.hd e0 hl r x
  refine wpAny_mono (ht [] s1 (start N vs) H _ I hq) (fun fl s' hs => ?_) fun e s' hs => hs
  have fin : ∀ {σ' : St} {H' : Hp} {v : V} {u : Value}, Inv (cxOf CX P w K mg base N qual scope f cdv A outer s H E) [] σ' H' s' → RelV v u → Q v H' → CE outer P w H s Q u s' :=
    fun {σ' H' v u} J rv q => ⟨v, H', J.os, J.bare, J.base, J.hok, rv, q⟩
  cases fl with
  | ret u =>
    obtain ⟨v, σ', H', J, rv, q⟩ := hs
    exact fin J rv q
  | next =>
    obtain ⟨σ', H', J, q⟩ := hs
    exact fin (v := V.non) (u := Value.none) J rfl q
  | brk =>
    obtain ⟨_, _, _, q⟩ := hs
    exact False.elim q
  | cont =>
    obtain ⟨_, _, _, q⟩ := hs
    exact False.elim q
end L2

namespace L2
open PySem PySem.Spec PyProof.Rows
section
variable {X : Cx} {x : Str} {p pos : Pos} {e : Expr} {es : List Expr} {t : TA} {id T : String} {r : List V → Hp → VK → Prop}

def tCB (r : List V → Hp → VK → Prop) (t : TA) : TE := fun σ H Q => t σ H fun vs H1 => r vs H1 Q
/-- f(e, ..), f a built-in function -/
theorem pe_callB (hc : CallR X (.builtin id) r) (hg : Gl X x) (hm : X.mg x = none) (hv : bootBuiltins x = some (.builtin id)) (ha : PA X (e :: es) t) (hn : x ≠ "__name__" := by decide) (hdb : (x == ("__debug__" : Str)) = false := by decide)
    (he : starEach (e :: es) X.env = (false, eval e X.env) :: starEach es X.env := by rfl) (hpl : (backTo pos (starEach es X.env)).any (·.1) = false := by rfl) : PE X (.Call (.Name x p) (e :: es) [] pos) (tCB r t) := by
  intro pins s σ H Q I h
  refine wpAny_Call_Name_kw (ld_blt I hg hm hv ?_ hn hdb)
  exact PyProof.Rows.callWith_builtin1 (thn (ha pos pins s σ H _ I h) fun us s1 ⟨vs, H1, I1, r1, q1⟩ => hc pins s1 σ H1 vs us Q I1 r1 q1) he hpl
/-- T(e, ..), T a built-in type -/
theorem pe_callTy (hc : CallR X (.type T) r) (hg : Gl X x) (hm : X.mg x = none) (hv : bootBuiltins x = some (.type T)) (ha : PA X (e :: es) t) (hn : x ≠ "__name__" := by decide) (hdb : (x == ("__debug__" : Str)) = false := by decide)
    (he : starEach (e :: es) X.env = (false, eval e X.env) :: starEach es X.env := by rfl) (hpl : (backTo pos (starEach es X.env)).any (·.1) = false := by rfl) : PE X (.Call (.Name x p) (e :: es) [] pos) (tCB r t) := by
  intro pins s σ H Q I h
  refine wpAny_Call_Name_kw (ld_blt I hg hm hv ?_ hn hdb)
  exact PyProof.Rows.callWith_type1 (thn (ha pos pins s σ H _ I h) fun us s1 ⟨vs, H1, I1, r1, q1⟩ => hc pins s1 σ H1 vs us Q I1 r1 q1) he hpl
end
end L2

namespace HT
open PySem PyProof.Rows

section
open PySem.SeqAt
open PySem.AutoSeq1 (wpAny_loadPart')
open PySem.MeetsSeq PySem.MeetsSeq2 PySem.MeetsSeq3

end

section
variable {prog : Program} {w : World} {A : Around} {E : Value → Shared → Prop} {s : Shared}

/-- t + u, t not empty -/
theorem cat_tup {t b : Addr} {vs ws : List Value} {Q : Value → Shared → Prop} (ht : IsTup s.heap t vs.toArray) (hb : IsTup s.heap b ws.toArray) (hv : vs ≠ [])
    (h1 : ws = [] → Q (.ref t) s) (h2 : ws ≠ [] → Q (.ref s.heap.objs.size) { s with heap := s.heap.push { cls := .type "tuple", data := .seq (vs ++ ws).toArray } })
    (hsz : vs.length + ws.length ≤ sizeLine) : wpAny (model prog w) A (binaryOp .Add (.ref t) (.ref b)) Q E s := by
  obtain ⟨⟨cls, dd, data, sl⟩, ho, hc, n, hd⟩ := id ht
  obtain ⟨⟨cls2, dd2, data2, sl2⟩, ho2, hc2, n2, hd2⟩ := id hb
  simp only at hc hd hc2 hd2
  subst hc hd hc2 hd2
  have e : vs.toArray ++ ws.toArray = (vs ++ ws).toArray := by simp
  by_cases hw : ws = []
  · exact concat_meets ⟨_, ho, rfl⟩ ⟨_, ho2, rfl⟩ noFill_tuple_add seq_tuple_add PySem.F.slot_tuple_add PySem.F.entry_tuple_add (PySem.F.args_tuple_add_2 _ _)
      (tuple_addW1 t b vs.toArray ws.toArray n n2 dd dd2 sl sl2 (by simpa using hv) (by simp [hw])) ⟨ho, ho2, h1 hw⟩
  · refine concat_meets ⟨_, ho, rfl⟩ ⟨_, ho2, rfl⟩ noFill_tuple_add seq_tuple_add PySem.F.slot_tuple_add PySem.F.entry_tuple_add (PySem.F.args_tuple_add_2 _ _)
      (tuple_addW2 t b vs.toArray ws.toArray n n2 dd dd2 sl sl2 (by simpa using hv) (by simpa using hw) (by rw [List.size_toArray, List.size_toArray]; exact hsz)) ⟨ho, ho2, ?_⟩
    rw [e]
    exact h2 hw

/-! ### t[a:b], not the whole -/
/-- a slice's bound as a place among n (d where it is left out) -/
def sIx (n d : Nat) : Option Int → Nat
  | none => d
  | some v => if v < 0 then (v + (n : Int)).toNat else min v.toNat n
theorem sIx_none (n d : Nat) : sIx n d none = d := rfl
theorem sIx_nat (n d k : Nat) : sIx n d (some (k : Int)) = min k n := by
  show (if (k : Int) < 0 then ((k : Int) + (n : Int)).toNat else min (k : Int).toNat n) = min k n
  rw [if_neg (by omega), Int.toNat_natCast]
end
end HT

namespace L2
open PySem PySem.Spec PyProof.Rows

/-! ### the parts of a slice -/
abbrev TO := St → Hp → (Option Int → Hp → Prop) → Prop
/-- a slice's part (left out, or an int) -/
def PO (X : Cx) (e : Option Expr) (t : TO) : Prop :=
  ∀ (pins : List (Addr × Obj)) (s : Shared) (σ : St) (H : Hp) (Q : Option Int → Hp → Prop), Inv X pins σ H s → t σ H Q →
    wpAny (model X.prog X.w) X.A (evalPart e X.env) (fun u s' => ∃ o H', Inv X pins σ H' s' ∧ IsPart u o ∧ Q o H') X.xe s
def tNoPart : TO := fun _ H Q => Q none H
def tPart (t : TE) : TO := fun σ H Q => t σ H fun x H1 => ∃ i, x = .int i ∧ Q (some i) H1

theorem intsAre_of {ns : List Int} : ∀ {us : List Value}, Vals (ns.map V.int) us → IntsAre us ns := by
  induction ns with
  | nil => intro us r; rw [List.map_nil] at r; cases r; exact .nil
  | cons n ns ih =>
    intro us r
    rw [List.map_cons] at r
    cases r with
    | cons r1 r2 =>
      obtain ⟨t, e⟩ := r1
      subst e
      exact .cons n t (ih r2)

section
variable {X : Cx} {e : Expr} {te : TE} {lo hi : Option Expr} {tl th : TO} {pos p2 : Pos}

theorem po_none : PO X none tNoPart := by
  intro pins s σ H Q I h
  rw [evalPart_none]
  exact wpAny_pure ⟨none, H, I, .none, h⟩
theorem po_some (h : PE X e te) : PO X (some e) (tPart te) := by
  intro pins s σ H Q I hw
  rw [evalPart_some]
  refine thn (h pins s σ H _ I hw) fun u s1 ⟨x, H1, I1, r1, q1⟩ => ?_
  obtain ⟨i, rfl, q⟩ := q1
  obtain ⟨t, rfl⟩ := r1
  exact ⟨some i, H1, I1, .int i t, q⟩

/-- what a slice of a value is, by values: the slice object stands at sl -/
def SlR (X : Cx) (r : V → Option Int → Option Int → Hp → VK → Prop) : Prop :=
  ∀ (pins : List (Addr × Obj)) (s : Shared) (σ : St) (H : Hp) (x : V) (v vl vu : Value) (lo hi : Option Int) (sl : Addr) (Q : VK), Inv X pins σ H s → RelV x v → s.heap.IsSliceOf sl vl vu .none → IsPart vl lo → IsPart vu hi → r x lo hi H Q →
    ∃ T id, typeLookup (.type T) "__getitem__" = pure (some (.builtin id)) ∧ s.TypeIs v T ∧ wpAny (model X.prog X.w) X.A (getItem v (.ref sl)) (EP X pins σ Q) X.xe s
def tSl (r : V → Option Int → Option Int → Hp → VK → Prop) (te : TE) (tl th : TO) : TE := fun σ H Q => te σ H fun x H1 => tl σ H1 fun l H2 => th σ H2 fun u H3 => r x l u H3 Q
/-- a[lo:hi], any a -/
theorem pe_slice {r : V → Option Int → Option Int → Hp → VK → Prop} (hr : SlR X r) (he : PE X e te) (hl : PO X lo tl) (hu : PO X hi th) : PE X (.Subscript e (.Slice lo hi none p2) pos) (tSl r te tl th) := by
  intro pins s σ H Q I h
  refine Subscript_ (thn (he pins s σ H _ I h) fun v s1 ⟨x, H1, I1, r1, q1⟩ => ?_)
  refine wpAny_Slice (thn (hl pins s1 σ H1 _ I1 q1) fun vl s2 ⟨l, H2, I2, pl, q2⟩ => thn (hu pins s2 σ H2 _ I2 q2) fun vu s3 ⟨u, H3, I3, pu, q3⟩ => ?_)
  rw [evalPart_none]
  refine wpAny_pure ?_
  have I4 : Inv X pins σ H3 { s3 with heap := s3.heap.push { cls := .type "slice", data := .fields #[vl, vu, .none] } } := I3.kept (t' := s3.toks) fun b ob q => Heap.get?_push_of_some _ q
  obtain ⟨T, id, hT, ht, hg⟩ := hr pins { s3 with heap := s3.heap.push { cls := .type "slice", data := .fields #[vl, vu, .none] } } σ H3 x v vl vu l u s3.heap.objs.size Q I4 r1 (Heap.IsSliceOf.new ..) pl pu q3
  show wpAny (model X.prog X.w) X.A (subscriptTail e (.Slice lo hi none p2) v (.ref s3.heap.objs.size)) (EP X pins σ Q) X.xe { s3 with heap := s3.heap.push { cls := .type "slice", data := .fields #[vl, vu, .none] } }
  exact tail_any (ops := [.ref s3.heap.objs.size, v]) ht hT hg (by with_unfolding_all rfl)

/-- the items of xs[lo:hi] -/
def cutV (xs : List V) (lo hi : Option Int) : List V := (xs.drop (HT.sIx xs.length 0 lo)).take (HT.sIx xs.length xs.length hi - HT.sIx xs.length 0 lo)
theorem cutV_length (xs : List V) (lo hi : Option Int) : (cutV xs lo hi).length ≤ xs.length := by
  unfold cutV
  rw [List.length_take, List.length_drop]
  omega
/-! ### t < u, t + u -/
end
end L2

namespace L2
open PySem PySem.Spec PyProof.Rows

/-! ### places -/
/-- the place that an index of any sign means -/
def ixN (n : Nat) (i : Int) : Option Nat := if 0 ≤ i then (if i < n then some i.toNat else none) else if -(n : Int) ≤ i then some (i + n).toNat else none
def atI {α : Type} (xs : List α) (i : Int) : Option α := (ixN xs.length i).bind fun j => xs[j]?
theorem ixN_seq {n : Nat} {i : Int} {j : Nat} (h : ixN n i = some j) : seqIndex? i n = some j ∧ j < n ∧ -(n : Int) ≤ i ∧ i < n := by
  unfold ixN at h
  by_cases h0 : 0 ≤ i
  · rw [if_pos h0] at h
    by_cases h1 : i < n
    · rw [if_pos h1] at h
      have e : i.toNat = j := Option.some.inj h
      exact ⟨by rw [seqIndex_of h0 h1, e], by omega, by omega, h1⟩
    · rw [if_neg h1] at h; cases h
  · rw [if_neg h0] at h
    by_cases h1 : -(n : Int) ≤ i
    · rw [if_pos h1] at h
      have e : (i + n).toNat = j := Option.some.inj h
      exact ⟨by rw [seqIndex_neg (by omega) h1, e], by omega, h1, by omega⟩
    · rw [if_neg h1] at h; cases h
theorem atI_get {α : Type} {xs : List α} {i : Int} {v : α} (h : atI xs i = some v) : ∃ j, seqIndex? i xs.length = some j ∧ xs[j]? = some v ∧ j < xs.length ∧ -(xs.length : Int) ≤ i ∧ i < xs.length := by
  unfold atI at h
  cases e : ixN xs.length i with
  | none => rw [e] at h; cases h
  | some j =>
    rw [e] at h
    obtain ⟨h1, h2, h3, h4⟩ := ixN_seq e
    exact ⟨j, h1, h, h2, h3, h4⟩
theorem atI_nat {α : Type} {xs : List α} {j : Nat} {v : α} (h : xs[j]? = some v) : atI xs (j : Int) = some v := by
  have hj : j < xs.length := (List.getElem?_eq_some_iff.mp h).1
  have e : ixN xs.length (j : Int) = some j := by
    unfold ixN
    rw [if_pos (by omega), if_pos (by omega)]; simp
  unfold atI; rw [e]; exact h
/-! ### what may be subscripted -/
/-- what stands as an index of a plain subscript -/
def PlainIx (b : Expr) : Prop := ∀ o i, subscripted b false o i = operate [o, i] (getItem o i)
/-- a subscript by values -/
def IxR (X : Cx) (r : R2) : Prop :=
  ∀ (value slice : Expr) (pins : List (Addr × Obj)) (s : Shared) (σ : St) (H : Hp) (x y : V) (v u : Value) (Q : VK), Inv X pins σ H s → RelV x v → RelV y u → r x y H Q →
    subscripted slice false v u = operate [v, u] (getItem v u) → wpAny (model X.prog X.w) X.A (subscriptTail value slice v u) (EP X pins σ Q) X.xe s
/-- a call of a builtin's method by values: the receiver, the arguments -/
def MtR (X : Cx) (id : String) (r : V → List V → Hp → VK → Prop) : Prop :=
  ∀ (pins : List (Addr × Obj)) (s : Shared) (σ : St) (H : Hp) (x : V) (xs : List V) (v : Value) (us : List Value) (Q : VK), Inv X pins σ H s → RelV x v → Vals xs us → r x xs H Q →
    wpAny (model X.prog X.w) X.A (call (.builtin id) (v :: us)) (EP X pins σ Q) X.xe s
section
variable {X : Cx} {a b : Expr} {ta tb : TE} {pos : Pos}
/-- a[b] -/
theorem pe_ix {r : R2} (hr : IxR X r) (ha : PE X a ta) (hb : PE X b tb) (hs : PlainIx b) : PE X (.Subscript a b pos) (tOp r ta tb) := by
  intro pins s σ H Q I h
  exact Subscript_ (binT ha hb I h fun v u s2 x y H2 I2 rx ry q => hr a b pins s2 σ H2 x y v u Q I2 rx ry q (hs _ _))

def rIxL (K : PySem.W.Frag) : R2 := fun x y H Q => ∃ p xs i v, x = .ref p ∧ y = .int i ∧ SqL K H p xs ∧ atI xs i = some v ∧ Q v H
def rIxT (K : PySem.W.Frag) : R2 := fun x y H Q => ∃ p xs i v, x = .ref p ∧ y = .int i ∧ SqT K H p xs ∧ atI xs i = some v ∧ Q v H
theorem ix_list : IxR X (rIxL X.K) := by
  intro value slice pins s σ H x y v u Q I rx ry h hs
  obtain ⟨p, xs, i, z, rfl, rfl, hq, he, q⟩ := h
  cases rx
  obtain ⟨t, rfl⟩ := ry
  obtain ⟨its, r, pl, hz⟩ := I.list hq
  obtain ⟨j, h1, h2, h3, h4, h5⟩ := atI_get he
  obtain ⟨w, ew, rw'⟩ := r.get h2
  have hl := r.length
  have hn := line63
  have fin : EP X pins σ Q w s := ⟨z, H, I, rw', q⟩
  by_cases h0 : 0 ≤ i
  · have hj : i.toNat = j := by
      rw [seqIndex_of h0 h5] at h1
      exact Option.some.inj h1
    exact item_listR pl.isList h0 (by omega) (by rw [hj]; simpa using ew) fin hs
  · have hj : (i + (its.toArray.size : Int)).toNat = j := by
      rw [seqIndex_neg (by omega) h4] at h1
      rw [List.size_toArray, ← hl]
      exact Option.some.inj h1
    exact subscriptTail_builtinR (x := w) pl.isList.typeIs slot_list_getitem.lookup
      (wpAny_getItem_list_neg (Q := fun r s' => r = w ∧ EP X pins σ Q r s') pl.isList (by omega) (by rw [List.size_toArray] <;> omega) (by omega) (by rw [hj]; simpa using ew) ⟨rfl, fin⟩) hs
theorem ix_tup : IxR X (rIxT X.K) := by
  intro value slice pins s σ H x y v u Q I rx ry h hs
  obtain ⟨p, xs, i, z, rfl, rfl, hq, he, q⟩ := h
  cases rx
  obtain ⟨t, rfl⟩ := ry
  obtain ⟨its, r, pl, hz⟩ := I.tuple hq
  obtain ⟨j, h1, h2, h3, h4, h5⟩ := atI_get he
  obtain ⟨w, ew, rw'⟩ := r.get h2
  have hl := r.length
  have hn := line63
  have fin : EP X pins σ Q w s := ⟨z, H, I, rw', q⟩
  exact subscriptTail_builtinR (x := w) pl.typeIs slot_tuple_getitem.lookup
    (getItem_tuple (j := j) (Q := fun r s' => r = w ∧ EP X pins σ Q r s') pl (by omega) (by omega) (by rw [List.size_toArray, ← hl]; exact h1) (by simpa using ew) ⟨rfl, fin⟩) hs
/-! ### xs[i] = v, any sign -/
/-- the list's object behind a store -/
theorem mapSeq_set (its : List Value) (n j : Nat) (u : Value) : Obj.mapSeq (·.setIfInBounds j u) { cls := .type "list", data := .seq its.toArray n } = { cls := .type "list", data := .seq (its.set j u).toArray n } := by
  simp [Obj.mapSeq]
theorem Inv.lst {pins : List (Addr × Obj)} {σ : St} {H : Hp} {s : Shared} {p : Addr} {xs : List V} (I : Inv X pins σ H s) (h : H p = some (.lst xs)) :
    ∃ (its : List Value) (n : Nat), Vals xs its ∧ s.heap.get? p = some { cls := .type "list", data := .seq its.toArray n } ∧ xs.length ≤ sizeLine := by
  obtain ⟨z, its, n, r, e⟩ := I.hok p _ h
  exact ⟨its, n, r, e, z⟩
/-- the list at p is written by an update of its object -/
theorem Inv.lstUpd {pins : List (Addr × Obj)} {σ : St} {H : Hp} {s : Shared} {p : Addr} {xs ys : List V} {its its' : List Value} {n n' : Nat} {f : Obj → Obj} (I : Inv X pins σ H s) (h : H p = some (.lst xs))
    (ho : s.heap.get? p = some { cls := .type "list", data := .seq its.toArray n }) (hf : f { cls := .type "list", data := .seq its.toArray n } = { cls := .type "list", data := .seq its'.toArray n' }) (r : Vals ys its') (hz : ys.length ≤ sizeLine) (t : Nat) :
    Inv X pins σ (upd H p (.lst ys)) { s with heap := s.heap.update p f, toks := t } := by
  have e : (s.heap.update p f).get? p = some { cls := .type "list", data := .seq its'.toArray n' } := by
    rw [Heap.get?_update_self f ho (by rw [hf] <;> rfl), hf]
  refine I.write (x := p) (e := p) (by rw [h]; trivial) (.inl rfl) (fun b u hb q => (Heap.get?_update_other _ _ (Ne.symm hb)).trans q) ⟨_, e⟩ ?_
  exact ⟨hz, its', n', r, e⟩
def rSetL : V → V → V → Hp → (Hp → Prop) → Prop := fun o i v H Q => ∃ p xs k j, o = .ref p ∧ i = .int k ∧ H p = some (.lst xs) ∧ ixN xs.length k = some j ∧ Q (upd H p (.lst (xs.set j v)))
theorem set_list : PSet X rSetL := by
  intro pins s σ H o i v ov iv u Q I ro ri rv h
  obtain ⟨p, xs, k, j, rfl, rfl, hp, hj, q⟩ := h
  cases ro
  obtain ⟨t, rfl⟩ := ri
  obtain ⟨its, n, r, ho, hz⟩ := I.lst hp
  obtain ⟨h1, h2, h3, h4⟩ := ixN_seq hj
  have hl := r.length
  have hn := line63
  have I' : Inv X pins σ (upd H p (.lst (xs.set j v))) { s with heap := s.heap.update p (Obj.mapSeq (·.setIfInBounds j u)) } :=
    I.lstUpd hp ho (mapSeq_set its n j u) (r.set rv j) (by rw [List.length_set]; exact hz) s.toks
  by_cases h0 : 0 ≤ k
  · have hk : k.toNat = j := by
      rw [seqIndex_of h0 h4] at h1
      exact Option.some.inj h1
    exact PySem.W.ki_setAt ho h0 (by omega) (by rw [List.size_toArray, ← hl]; exact h4) (by rw [hk]; exact ⟨_, I', q⟩)
  · have hk : (k + (its.toArray.size : Int)).toNat = j := by
      rw [seqIndex_neg (by omega) h3] at h1
      rw [List.size_toArray, ← hl]
      exact Option.some.inj h1
    exact PySem.W.ki_setBack ho (by omega) (by rw [List.size_toArray, ← hl]; exact h3) (by omega) (by rw [hk]; exact ⟨_, I', q⟩)

/-! ### slices -/
theorem slice_bounds (lo hi : Option Int) (n : Nat) : (sliceBounds lo hi none n).1 = ((HT.sIx n 0 lo : Nat) : Int) ∧ (sliceBounds lo hi none n).2.1 = ((HT.sIx n n hi : Nat) : Int) ∧ (sliceBounds lo hi none n).2.2 = 1 := by
  refine ⟨?_, ?_, rfl⟩
  · cases lo with
    | none => simp [sliceBounds, HT.sIx]
    | some i =>
      simp only [sliceBounds, HT.sIx, Option.getD_none, show (1 : Int) > 0 by decide, if_true]
      by_cases h : i < 0
      · simp only [h, if_true] <;> omega
      · simp only [h, if_false] <;> omega
  · cases hi with
    | none => simp [sliceBounds, HT.sIx]
    | some i =>
      simp only [sliceBounds, HT.sIx, Option.getD_none, show (1 : Int) > 0 by decide, if_true]
      by_cases h : i < 0
      · simp only [h, if_true] <;> omega
      · simp only [h, if_false] <;> omega
theorem slicePick_cut (its : List Value) (lo hi : Option Int) : slicePick its.toArray lo hi none = ((its.drop (HT.sIx its.length 0 lo)).take (HT.sIx its.length its.length hi - HT.sIx its.length 0 lo)).toArray := by
  obtain ⟨h1, h2, h3⟩ := slice_bounds lo hi its.toArray.size
  unfold slicePick
  rw [h1, h2, h3]
  simp only [sliceRange_one, pick_run, List.size_toArray] <;> rfl
/-- xs[lo:hi] of a list: a new list -/
def rSlL (K : PySem.W.Frag) : V → Option Int → Option Int → Hp → VK → Prop := fun x lo hi H Q => ∃ a xs, x = .ref a ∧ SqL K H a xs ∧ ∀ p, H p = none → Q (.ref p) (upd H p (.lst (cutV xs lo hi)))
theorem sl_list : SlR X (rSlL X.K) := by
  intro pins s σ H x v vl vu lo hi sl Q I rx hs pl pu h
  obtain ⟨a, xs, rfl, hx, q⟩ := h
  cases rx
  obtain ⟨its, r, ht, hz⟩ := I.list hx
  have hlen := r.length
  refine ⟨"list", _, slot_list_getitem.lookup, ht.isList.typeIs, ?_⟩
  refine wpAny_getItem_list_slice ht.isList hs pl pu .none (by simp) ?_ (by rw [List.size_toArray] <;> omega)
  rw [slicePick_cut, ← hlen]
  refine ⟨.ref s.heap.objs.size, _, I.laid (t' := s.toks) (o := .lst (cutV xs lo hi)) (fun b ob q => Heap.get?_push_of_some _ q) (Nat.le_refl _) ?_, rfl, q _ (I.hok.fresh (Nat.le_refl _))⟩
  exact ⟨Nat.le_trans (cutV_length xs lo hi) hz, _, 0, (r.drop (HT.sIx xs.length 0 lo)).take (HT.sIx xs.length xs.length hi - HT.sIx xs.length 0 lo), Heap.get?_push_size _ rfl⟩

/-! ### in, not in: flat items -/
def flatV : V → Bool
  | .non => true
  | .bl _ => true
  | .int _ => true
  | .str _ => true
  | _ => false
/-- == of flat values -/
def eqV : V → V → Bool
  | .non, .non => true
  | .bl a, .bl b => a == b
  | .bl a, .int b => (if a then 1 else 0) == b
  | .int a, .bl b => a == (if b then 1 else 0)
  | .int a, .int b => a == b
  | .str a, .str b => a == b
  | _, _ => false
theorem eqAt_V {A : Around} {s : Shared} {y x : V} {u v : Value} (ry : RelV y u) (rx : RelV x v) (fy : flatV y = true) (fx : flatV x = true) : SeqAt.EqAt A s u v (eqV y x) := by
  cases y with
  | non =>
    cases ry
    cases x with
    | non => cases rx; exact SeqAt.EqAt.same _
    | bl b => cases rx; exact SeqAt.EqAt.none_bool b
    | int b => obtain ⟨t, rfl⟩ := rx; exact SeqAt.EqAt.none_int b t
    | str b => obtain ⟨t, rfl⟩ := rx; exact SeqAt.EqAt.none_str b t
    | _ => exact absurd (show false = true from fx) Bool.false_ne_true
  | bl a =>
    cases ry
    cases x with
    | non => cases rx; exact SeqAt.EqAt.bool_none a
    | bl b => cases rx; exact SeqAt.EqAt.bool_bool a b
    | int b => obtain ⟨t, rfl⟩ := rx; exact SeqAt.EqAt.bool_int a b t
    | str b => obtain ⟨t, rfl⟩ := rx; exact SeqAt.EqAt.bool_str a b t
    | _ => exact absurd (show false = true from fx) Bool.false_ne_true
  | int a =>
    obtain ⟨t', rfl⟩ := ry
    cases x with
    | non => cases rx; exact SeqAt.EqAt.int_none a t'
    | bl b => cases rx; exact SeqAt.EqAt.int_bool a t' b
    | int b => obtain ⟨t, rfl⟩ := rx; exact SeqAt.EqAt.int_int a t' b t
    | str b => obtain ⟨t, rfl⟩ := rx; exact SeqAt.EqAt.int_str a t' b t
    | _ => exact absurd (show false = true from fx) Bool.false_ne_true
  | str a =>
    obtain ⟨t', rfl⟩ := ry
    cases x with
    | non => cases rx; exact SeqAt.EqAt.str_none a t'
    | bl b => cases rx; exact SeqAt.EqAt.str_bool a t' b
    | int b => obtain ⟨t, rfl⟩ := rx; exact SeqAt.EqAt.str_int a t' b t
    | str b => obtain ⟨t, rfl⟩ := rx; exact SeqAt.EqAt.str_str a t' b t
    | _ => exact absurd (show false = true from fx) Bool.false_ne_true
  | _ => exact absurd (show false = true from fy) Bool.false_ne_true
/-- the items' answers, read off the values (a value's own answer does not lean on its token) -/
def eqU (x : V) (u : Value) : Bool := match u with
  | .none => eqV .non x
  | .bool b => eqV (.bl b) x
  | .int i _ => eqV (.int i) x
  | .str z _ => eqV (.str z) x
  | _ => false
theorem eqU_of {x y : V} {u : Value} (r : RelV y u) (f : flatV y = true) : eqU x u = eqV y x := by
  cases y with
  | non => cases r; rfl
  | bl b => cases r; rfl
  | int i => obtain ⟨t, rfl⟩ := r; rfl
  | str z => obtain ⟨t, rfl⟩ := r; rfl
  | _ => exact absurd (show false = true from f) Bool.false_ne_true
theorem any_eqU {x : V} : ∀ {xs : List V} {us : List Value}, Vals xs us → xs.all flatV = true → us.any (eqU x) = xs.any fun y => eqV y x
  | _, _, .nil, _ => rfl
  | y :: xs, u :: us, .cons r t, f => by
    rw [List.all_cons, Bool.and_eq_true] at f
    rw [List.any_cons, List.any_cons, eqU_of r f.1, any_eqU t f.2]
theorem mem_eqAt {A : Around} {s : Shared} {x : V} {v : Value} (rx : RelV x v) (fx : flatV x = true) : ∀ {xs : List V} {us : List Value}, Vals xs us → xs.all flatV = true → ∀ u ∈ us, SeqAt.EqAt A s u v (eqU x u)
  | _, _, .nil, _ => fun u hu => by cases hu
  | y :: xs, u :: us, .cons r t, f => fun u' hu => by
    rw [List.all_cons, Bool.and_eq_true] at f
    rcases List.mem_cons.mp hu with rfl | hu
    · rw [eqU_of r f.1]; exact eqAt_V r rx f.1 fx
    · exact mem_eqAt rx fx t f.2 u' hu
def inV (x : V) (xs : List V) : Bool := xs.any fun y => eqV y x
/-- x in a list or tuple of flat items -/
def rIn (K : PySem.W.Frag) (neg : Bool) : R2 := fun x y H Q => ∃ p xs, y = .ref p ∧ (SqL K H p xs ∨ SqT K H p xs) ∧ flatV x = true ∧ xs.all flatV = true ∧ Q (.bl (if neg then !inV x xs else inV x xs)) H
theorem op_in_seq : OpR X (compareOp .In) (rIn X.K false) := by
  intro pins s σ H x y v u Q I rx ry h
  obtain ⟨p, xs, rfl, hq, fx, fs, q⟩ := h
  cases ry
  rcases hq with hq | hq
  · obtain ⟨its, r, pl, hz⟩ := I.list hq
    refine SeqAt.in_listAt (eqU x) pl.isList (fun w hw => mem_eqAt rx fx r fs w (by simpa using hw)) ⟨.bl _, H, I, rfl, ?_⟩
    rw [show its.toArray.any (eqU x) = its.any (eqU x) by simp, any_eqU r fs]
    exact q
  · obtain ⟨its, r, pl, hz⟩ := I.tuple hq
    refine SeqAt.in_tupleAt (eqU x) pl (fun w hw => mem_eqAt rx fx r fs w (by simpa using hw)) ⟨.bl _, H, I, rfl, ?_⟩
    rw [show its.toArray.any (eqU x) = its.any (eqU x) by simp, any_eqU r fs]
    exact q
/-! ### len, list(x), tuple(x) of any list or tuple that is read -/
theorem call_len_seq : CallR X (.builtin "len") (fun xs H Q => ∃ p ys, xs = [.ref p] ∧ (SqL X.K H p ys ∨ SqT X.K H p ys) ∧ Q (.int ys.length) H) := by
  intro pins s σ H xs us Q I r h
  obtain ⟨p, ys, rfl, hq, q⟩ := h
  obtain ⟨u, rfl, rx⟩ := vals1 r
  cases rx
  have hn := line63
  rcases hq with hq | hq
  · obtain ⟨its, r', pl, hz⟩ := I.list hq
    have hlen := r'.length
    exact Calls.call_len_list pl.isList (by simp only [List.size_toArray] <;> omega) ⟨.int ys.length, H, I.tok _, ⟨s.toks + 1, by rw [List.size_toArray, hlen]⟩, q⟩
  · obtain ⟨its, r', pl, hz⟩ := I.tuple hq
    have hlen := r'.length
    exact len_tuple pl (by simp only [List.size_toArray] <;> omega) ⟨.int ys.length, H, I.tok _, ⟨s.toks + 1, by rw [List.size_toArray, hlen]⟩, q⟩
/-! ### the call of a builtin's method: o.m(..) -/
/-- the value is of that builtin type -/
def tyV (K : PySem.W.Frag) (T : String) (x : V) (H : Hp) : Prop := match x with
  | .str _ => T = "str"
  | .int _ => T = "int"
  | .ref p => (T = "list" ∧ ∃ xs, SqL K H p xs) ∨ (T = "tuple" ∧ ∃ o, K.lookup p = some o ∧ o.cls = .type "tuple" ∧ o.dict = none) ∨
      (T = "dict" ∧ ((∃ kvs, H p = some (.dK kvs)) ∨ ∃ kvs, H p = some (.dT kvs))) ∨ (T = "set" ∧ ∃ S n, H p = some (.set S n))
  | _ => False
theorem tyV_is {pins : List (Addr × Obj)} {σ : St} {H : Hp} {s : Shared} {T : String} {x : V} {v : Value} (I : Inv X pins σ H s) (r : RelV x v) (ty : tyV X.K T x H) :
    s.TypeIs v T ∧ ∀ a, v = .ref a → ∃ ob, s.heap.get? a = some ob ∧ ob.dict = none := by
  cases x with
  | str z =>
    obtain ⟨t, rfl⟩ := r
    cases (show T = "str" from ty)
    exact ⟨typeIs_str s z t, fun _ e => nomatch e⟩
  | int i =>
    obtain ⟨t, rfl⟩ := r
    cases (show T = "int" from ty)
    exact ⟨typeIs_int s i t, fun _ e => nomatch e⟩
  | ref p =>
    cases r
    rcases ty with ⟨rfl, xs, hq⟩ | ⟨rfl, o, hk, hc, hd⟩ | ⟨rfl, hk⟩ | ⟨rfl, S, n, hk⟩
    · obtain ⟨its, _, pl, _⟩ := I.list hq
      refine ⟨pl.isList.typeIs, fun a e => ?_⟩
      cases e
      obtain ⟨o, n, e, c, hd, _⟩ := pl
      exact ⟨o, e, hd⟩
    · refine ⟨⟨o, I.kIn p o hk, hc⟩, fun a e => ?_⟩
      cases e
      exact ⟨o, I.kIn _ o hk, hd⟩
    · have z : ∃ o, s.heap.get? p = some o ∧ o.ExactDict := by
        rcases hk with ⟨kvs, hk⟩ | ⟨kvs, hk⟩
        · obtain ⟨_, _, _, _, o, _, _, e, ex, _⟩ := I.hok p _ hk
          exact ⟨o, e, ex⟩
        · obtain ⟨_, _, _, _, o, _, _, e, ex, _⟩ := I.hok p _ hk
          exact ⟨o, e, ex⟩
      obtain ⟨o, e, ex⟩ := z
      refine ⟨⟨o, e, ex.1⟩, fun a e2 => ?_⟩
      cases e2
      exact ⟨o, e, ex.2.1⟩
    · obtain ⟨o, _, _, _, e, ex, _⟩ := I.hok p _ hk
      refine ⟨⟨o, e, ex.1⟩, fun a e2 => ?_⟩
      cases e2
      exact ⟨o, e, ex.2.1⟩
  | _ => exact False.elim ty
def tBM0 (K : PySem.W.Frag) (T : String) (r : V → List V → Hp → VK → Prop) (to : TE) : TE := fun σ H Q => to σ H fun x H1 => tyV K T x H1 ∧ r x [] H1 Q
def tBM (K : PySem.W.Frag) (T : String) (r : V → List V → Hp → VK → Prop) (to : TE) (t : TA) : TE := fun σ H Q => to σ H fun x H1 => tyV K T x H1 ∧ t σ H1 fun xs H2 => r x xs H2 Q
variable {o e : Expr} {es : List Expr} {to : TE} {t : TA} {name : Str} {apos cpos : Pos} {T id : String} {r : V → List V → Hp → VK → Prop}
theorem pe_bm0 (pa : PlainAttrs T) (slot : Slot T name id) (hty : typeOf (.builtin id) = pure (.type "method_descriptor")) (hm : MtR X id r) (ho : PE X o to)
    (hbase : attributeBase o name X.env (eval o X.env) = eval o X.env := by rfl) (hline : (apos.endLine == cpos.line) = true := by rfl) : PE X (.Call (.Attribute o name apos) [] [] cpos) (tBM0 X.K T r to) := by
  intro pins s σ H Q I h
  refine wpAny_Call_method0_late hbase hline (thn (ho pins s σ H _ I h) fun v s1 ⟨x, H1, I1, r1, ty, q1⟩ => ?_)
  obtain ⟨h1, h2⟩ := tyV_is I1 r1 ty
  exact ⟨T, id, pa, slot, hty, h1, h2, Calls.callWith_builtin rfl (PySem.evalArgs_none (hm pins s1 σ H1 x [] v [] Q I1 r1 .nil q1))⟩
theorem pe_bm (pa : PlainAttrs T) (slot : Slot T name id) (hty : typeOf (.builtin id) = pure (.type "method_descriptor")) (hm : MtR X id r) (ho : PE X o to) (ha : PA X (e :: es) t)
    (hbase : attributeBase o name X.env (eval o X.env) = eval o X.env := by rfl)
    (hfew : ((backTo cpos (starEach (e :: es) X.env)).all (fun x => !x.1) && (backToKw cpos (keywordEach [] X.env)).all (fun x => x.1.isSome)
      && decide ((e :: es).length + ([] : List Keyword).length + (if ([] : List Keyword).isEmpty then 0 else 1) < 30)) = true := by rfl)
    (hline : (apos.endLine == cpos.line) = true := by rfl) (hs : starEach (e :: es) X.env = (false, eval e X.env) :: starEach es X.env := by rfl) (hplain : (backTo cpos (starEach es X.env)).any (·.1) = false := by rfl) :
    PE X (.Call (.Attribute o name apos) (e :: es) [] cpos) (tBM X.K T r to t) := by
  intro pins s σ H Q I h
  refine wpAny_Call_method_late hbase hfew hline rfl (thn (ho pins s σ H _ I h) fun v s1 ⟨x, H1, I1, r1, ty, q1⟩ => ?_)
  obtain ⟨h1, h2⟩ := tyV_is I1 r1 ty
  refine ⟨T, id, pa, slot, hty, h1, h2, ?_⟩
  have hA := ha cpos pins s1 σ H1 _ I1 q1
  rw [hs] at hA ⊢
  refine Calls.callWith_builtin (by show (false || (backTo cpos (starEach es X.env)).any (·.1)) = false; rw [hplain] <;> rfl) (Calls.evalArgs_plain ?_)
  exact thn hA fun us s2 ⟨vs, H2, I2, r2, q2⟩ => hm pins s2 σ H2 x vs v us Q I2 r1 r2 q2
/- xs.append(e), list.index on a module's tuple .. are MtR facts of 06m -/
end
end L2

namespace L2
open PySem PySem.Spec PyProof.Rows

def MtM (X : Cx) (id : String) (r : V → List V → Hp → VK → Prop) : Prop :=
  ∀ (pins : List (Addr × Obj)) (s : Shared) (σ : St) (H : Hp) (x : V) (xs : List V) (v : Value) (us : List Value) (Q : VK), Inv X pins σ H s → RelV x v → Vals xs us → r x xs H Q →
    wpAny (model X.prog X.w) X.A (call (.builtin id) (v :: us)) (EP X pins σ Q) X.xe s

/-! ### lists of values -/
theorem Vals.one : ∀ {x : V} {us : List Value}, Vals [x] us → ∃ u, us = [u] ∧ RelV x u
  | _, _, .cons r .nil => ⟨_, rfl, r⟩
theorem Vals.two : ∀ {x y : V} {us : List Value}, Vals [x, y] us → ∃ u v, us = [u, v] ∧ RelV x u ∧ RelV y v
  | _, _, _, .cons r (.cons q .nil) => ⟨_, _, rfl, r, q⟩
theorem Vals.zero : ∀ {us : List Value}, Vals [] us → us = []
  | _, .nil => rfl
theorem Vals.dropLast {xs : List V} {us : List Value} (h : Vals xs us) : Vals xs.dropLast us.dropLast := by
  induction h with
  | nil => exact .nil
  | cons r t ih =>
    cases t with
    | nil => exact .nil
    | cons q t' => exact .cons r ih
theorem Vals.eraseIdx : ∀ {xs : List V} {us : List Value} (i : Nat), Vals xs us → Vals (xs.eraseIdx i) (us.eraseIdx i)
  | _, _, _, .nil => .nil
  | _, _, 0, .cons _ t => t
  | _, _, i + 1, .cons r t => .cons r (Vals.eraseIdx i t)
theorem Vals.reverse {xs : List V} {us : List Value} (h : Vals xs us) : Vals xs.reverse us.reverse := by
  induction h with
  | nil => exact .nil
  | cons r t ih => rw [List.reverse_cons, List.reverse_cons]; exact Vals.append ih (.cons r .nil)
theorem erase_last {α : Type} (l : List α) : l.eraseIdx (l.length - 1) = l.dropLast := by
  induction l with
  | nil => rfl
  | cons a r ih =>
    cases r with
    | nil => rfl
    | cons b r =>
      have e : (a :: b :: r).length - 1 = ((b :: r).length - 1) + 1 := by
        have h1 : (a :: b :: r).length = r.length + 2 := rfl
        have h2 : (b :: r).length = r.length + 1 := rfl
        omega
      rw [e, List.eraseIdx_cons_succ, ih]
      all_goals rfl
section
variable {X : Cx} {pins : List (Addr × Obj)} {σ : St} {H : Hp} {s : Shared} {l b : Addr} {xs ys zs : List V}

/-! ### the two steps: a tracked list is rewritten, a new list is laid -/
theorem Inv.lset {its its' : List Value} {n : Nat} {f : Array Value → Array Value} {t' : Nat} (I : Inv X pins σ H s) (hH : H l = some (.lst xs))
    (e : s.heap.get? l = some { cls := .type "list", data := .seq its.toArray n }) (hf : f its.toArray = its'.toArray) (hv : Vals ys its') (hz : ys.length ≤ sizeLine) :
    Inv X pins σ (upd H l (.lst ys)) { s with heap := s.heap.update l (Obj.mapSeq f), toks := t' } := by
  have q := PySem.IsL.update e f
  rw [hf] at q
  refine I.write (x := l) (e := l) (by rw [hH]; exact trivial) (.inl rfl) (fun b' u hb hu => (Heap.get?_update_other s.heap (Obj.mapSeq f) (Ne.symm hb)).trans hu) ⟨_, q⟩ ?_
  exact ⟨hz, its', _, hv, q⟩
theorem Inv.lnew {its : List Value} {t' : Nat} (I : Inv X pins σ H s) (hv : Vals ys its) (hz : ys.length ≤ sizeLine) :
    Inv X pins σ (upd H s.heap.objs.size (.lst ys)) { s with heap := s.heap.push { cls := .type "list", data := .seq its.toArray }, toks := t' } :=
  I.laid (fun _ _ q => Heap.get?_push_of_some _ q) (Nat.le_refl _) ⟨hz, its, 0, hv, Heap.get?_push_size _ rfl⟩
theorem Inv.fresh (I : Inv X pins σ H s) : H s.heap.objs.size = none := I.hok.fresh (Nat.le_refl _)
theorem Inv.lstM (I : Inv X pins σ H s) (hH : H l = some (.lst xs)) : xs.length ≤ sizeLine ∧ ∃ (its : List Value) (n : Nat), Vals xs its ∧ xs.length = its.length ∧ s.heap.get? l = some { cls := .type "list", data := .seq its.toArray n } := by
  obtain ⟨z, its, n, r, e⟩ := I.hok l _ hH
  exact ⟨z, its, n, r, r.length, e⟩

end

section
variable {X : Cx}

/-! ### methods -/
def rAppend : V → List V → Hp → VK → Prop := fun x vs H Q => ∃ l xs y, x = .ref l ∧ vs = [y] ∧ H l = some (.lst xs) ∧ xs.length < sizeLine ∧ Q .non (upd H l (.lst (xs ++ [y])))
theorem mt_append : MtM X "list.append" rAppend := by
  intro pins s σ H x vs v us Q I rx rv h
  obtain ⟨l, xs, y, rfl, rfl, hH, hz, q⟩ := h
  cases rx
  obtain ⟨u, rfl, ru⟩ := rv.one
  obtain ⟨z, its, n, r, hl, e⟩ := I.lstM hH
  refine call_meets F.slot_list_append ⟨_, e, rfl⟩ F.entry_list_append (F.args_list_append_2 _ _) (PySem.list_append l its.toArray n u (by rw [List.size_toArray]; omega)) ⟨e, ?_⟩
  refine ⟨.non, _, I.lset (its' := its ++ [u]) hH e (by simp) (r.append (.cons ru .nil)) ?_, rfl, q⟩
  rw [List.length_append, List.length_singleton]
  omega

def rPop : V → List V → Hp → VK → Prop := fun x vs H Q => ∃ l xs y, x = .ref l ∧ vs = [] ∧ H l = some (.lst xs) ∧ xs[xs.length - 1]? = some y ∧ Q y (upd H l (.lst xs.dropLast))
theorem mt_pop : MtM X "list.pop" rPop := by
  intro pins s σ H x vs v us Q I rx rv h
  obtain ⟨l, xs, y, rfl, rfl, hH, hy, q⟩ := h
  cases rx
  have hus := rv.zero
  subst hus
  obtain ⟨z, its, n, r, hl, e⟩ := I.lstM hH
  obtain ⟨u, hu, ru⟩ := r.get hy
  have hy' : its.toArray[its.toArray.size - 1]? = some u := by
    show its.toArray[its.length - 1]? = some u
    rw [← Array.getElem?_toList, ← hl]
    exact hu
  refine call_meets F.slot_list_pop ⟨_, e, rfl⟩ F.entry_list_pop (F.args_list_pop_1 _) (MeetsSeq.list_pop_last l its.toArray n u hy' (by rw [List.size_toArray]; omega)) ⟨e, ?_⟩
  refine ⟨y, _, I.lset (its' := its.dropLast) hH e ?_ r.dropLast ?_, ru, q⟩
  · show its.toArray.eraseIdxIfInBounds (its.toArray.size - 1) = its.dropLast.toArray
    rw [List.size_toArray, List.eraseIdxIfInBounds_toArray, erase_last]
  · rw [List.length_dropLast]
    omega

/-! ### list + list, list += list, list * int -/
def rCat : R2 := fun x y H Q => ∃ l b xs zs, x = .ref l ∧ y = .ref b ∧ H l = some (.lst xs) ∧ H b = some (.lst zs) ∧ xs.length + zs.length ≤ sizeLine ∧ ∀ p, H p = none → Q (.ref p) (upd H p (.lst (xs ++ zs)))
theorem op_cat : OpR X (binaryOp .Add) rCat := by
  intro pins s σ H x y v u Q I rx ry h
  obtain ⟨l, b, xs, zs, rfl, rfl, hH, hB, hz, q⟩ := h
  cases rx
  cases ry
  obtain ⟨z, its, n, r, hl, e⟩ := I.lstM hH
  obtain ⟨z2, its2, n2, r2, hl2, e2⟩ := I.lstM hB
  refine PySem.P.add_list e e2 ?_ (by rw [List.size_toArray, List.size_toArray]; omega)
  have ea : its.toArray ++ its2.toArray = (its ++ its2).toArray := by simp
  rw [ea]
  exact ⟨.ref _, _, I.lnew (t' := s.toks) (r.append r2) (by rw [List.length_append]; omega), rfl, q _ I.fresh⟩
/-! ### del xs[i] -/
end

/-! ### xs[a:b] = ys -/
section
variable {prog : Program} {w : World} {A : Around} {E : Value → Shared → Prop} {s : Shared}
end

section
variable {X : Cx}
end
end L2

namespace Att
open PySem PySem.W PySem.Calls PyProof.Rows

/-! ### the script -/
theorem ints_of_wellAll {P : Params} {h : Heap} : ∀ (ns : List Int) (vs : List Value), WellAll P h vs (ns.map WData.int) → IntsAre vs ns := by
  intro ns
  induction ns with
  | nil =>
    intro vs w
    rw [List.map_nil] at w
    cases w
    exact .nil
  | cons n ns ih =>
    intro vs w
    rw [List.map_cons] at w
    cases w with
    | cons a b =>
      cases a
      exact .cons _ _ (ih _ b)

theorem script_of {l : OpenLaw} {n : Nat} (hn : l.most = some n) {P : Params} {h : Heap} {args : List WData} {vals : List Value}
    (hpre : l.row.toRowW.claim.pre args = true) (hwl : WellAll P h vals args) :
    ∃ a vs ns, vals = [Value.ref a] ∧ args = [WData.list (ns.map WData.int)] ∧ h.get? a = some { cls := .type "list", data := .seq vs.toArray } ∧ IntsAre vs ns ∧ ns.length ≤ n := by
  have hsh : WShape.hasAll [] args [.list .int] = true := (pre_splitW hpre).1
  have hc : l.pre.holds [] { args := args } = true := (pre_splitW hpre).2
  obtain ⟨d, r, rfl, h1, h2⟩ := hasAllW_cons hsh
  obtain rfl := hasAllW_nil h2
  obtain ⟨xs, rfl, h3⟩ := hasW_list h1
  obtain ⟨ns, rfl⟩ := items_int h3
  have hlen : ns.length ≤ n := by
    unfold OpenLaw.pre at hc
    have h4 : (WTm.not (.lt (.lit (.int (n : Int))) (.len (.arg 0)))).holds [] { args := [.list (ns.map .int)] } = true := by
      have h4 := (holds_andW hc).1
      rw [hn] at h4
      exact h4
    have h5 := condW_of h4 (w_not (w_lt w_lit (w_len_list (w_arg rfl))))
    rw [List.length_map] at h5
    refine Nat.le_of_not_lt fun q => ?_
    have q' : (n : Int) < ((ns.length : Nat) : Int) := by omega
    first
      | (rw [decide_eq_true q'] at h5; exact absurd h5 (by decide))
      | (simp at h5; omega)
  cases hwl with
  | cons w1 w2 =>
    cases w2
    cases w1 with
    | list ho hall => exact ⟨_, _, ns, rfl, rfl, ho, ints_of_wellAll ns _ hall, hlen⟩

theorem post_true (l : OpenLaw) (args : List WData) : l.row.toRowW.claim.post args (.bool true) args = true :=
  postW_of (r := l.row.toRowW) (X := (true == true))
    (show WShape.has [] (.bool true) .bool = true by first | rfl | decide | simp [WShape.has, WShape.arms, WShape.armsAll])
    (show (WTm.eq .res (.lit (.bool true))).value [] { args := args, res := some (.bool true), after := args } = some (.bool (true == true)) from w_eq_bool (w_res rfl) w_lit) rfl

/-! ### the attachment: holds_open's last premise (the goal 'hc' behind k_head) from a wpAny of the law's body -/
/-- the same from a codeAny of the CALL (for a layer whose function contracts speak of calls) -/
theorem attach_call {l : OpenLaw} {n : Nat} {q : Program} {loose : List Str} {XP : (Str → Option Value) → Heap → Prop} {YP : World → Heap → Prop} {d : DefRec}
    (hn : l.most = some n) (hdf : d.params.defaults = [])
    (call : ∀ (w : World) (s₀ s₁ : Shared) (mg mb : Str → Option Value) (fa : Addr) (o : Obj) (pm cd doc : Value) (a : Addr) (vs : List Value) (ns : List Int),
      Ground q loose [] XP w s₀ mg mb s₁.heap → YP w s₁.heap →
      s₁.heap.get? fa = some o → o.data = .func (docDef d.name d.params d.body d.scope pm cd doc) → s₁.heap.CodeRec cd d.name → mg d.name = some (.ref fa) →
      s₁.heap.get? a = some { cls := .type "list", data := .seq vs.toArray } → IntsAre vs ns → ns.length ≤ n → s₁.gens = #[] →
      codeAny (model l.prog w) callerA (.call (.ref fa) ⟨[.ref a], []⟩) (fun r s' => r = .ok (.ret (.bool true)) ∧ OldK s₁.heap s'.heap ∧ s'.os = s₁.os ∧ AllBare s'.gens) s₁) :
    WalkO q loose XP YP l.row.toRowW d [] (fun f vs => PySem.call f vs) := by
  intro w s₀ s₁ mg mb G Y fa o pm cd doc dV kV ho hd hcd hD hmg hg args vals as hpre hlay hrd hwl hlo
  obtain rfl : dV = .none := Dflts.none hD hdf
  obtain rfl : kV = .none := Dflts.noKw hD
  obtain ⟨a, vs, ns, rfl, rfl, hobj, hints, hlen⟩ := script_of hn hpre hwl
  refine enter_call (codeAny_mono (call w s₀ s₁ mg mb fa o pm cd doc a vs ns G Y ho (fd_plain hd) hcd hmg hobj hints hlen hg) fun r s' hq => ?_)
  obtain ⟨rfl, h2, h3, h4⟩ := hq
  exact ⟨.inl ⟨.bool true, .bool true, [], rfl, fun _ => rfl, .bool true, post_true l _, fun _ => ⟨List.Pairwise.nil, fun _ hm => (nomatch hm)⟩⟩, h2, h3, h4⟩

/-! ### rules over ANY heap (no ledger) from facts about the written part K: the library's own take a ledger (News) for what they write -/
section
variable {prog : Program} {w : World} {A : Around} {E : Value → Shared → Prop} {s : Shared} {K : Frag}

/-! the whole heap as the ledger: makes every rule that writes through a ledger a rule over any heap -/
end
end Att

namespace L2
open PySem PySem.Spec PyProof.Rows

theorem vals_ints : ∀ {vs : List Value} {ns : List Int}, IntsAre vs ns → Vals (ns.map V.int) vs
  | _, _, .nil => .nil
  | _, _, .cons n t h => .cons ⟨t, rfl⟩ (vals_ints h)

/-- nothing is tracked but the script, known to the object (or it is an object of the module) -/
def Only (H : Hp) : Prop := ∀ b, H b = none ∨ ∃ o xs, H b = some (.frz o (.lst xs))

/-- THE HEAD: the law's promise, at the heap behind the top. F, the promise of the law's def, may use that base is part of the heap (so K.In base, base.Ns mainGlobals mg stand in Mod) -/
theorem law_call {P : Program} {w : World} {K : PySem.W.Frag} {mg mb : Str → Option Value} {CX : CXT} {k : Nat} {fa a : Addr} {fd : FuncData} {x : Str} {sp : Sp} {s₁ : Shared} {vs : List Value} {ns : List Int}
    (KX : K.In s₁.heap) (hns : s₁.heap.Ns mainGlobals mg) (hb : s₁.heap.Ns builtinsNs mb) (hbb : ∀ x : Str, x ≠ "__name__" → mb x = bootBuiltins x) (hlim : s₁.heap.NoLimit) (hg : s₁.gens = #[])
    (ha : s₁.heap.get? a = some { cls := .type "list", data := .seq vs.toArray }) (hi : IntsAre vs ns) (hl : ns.length ≤ sizeLine) (hr : Room k callerA)
    (F : ∀ base : Heap, K.In base → base.Ns mainGlobals mg → FnOk P w K mg base CX k fa fd [x] sp) (hbind : ∀ (s : Shared) (u : Value), BindsTo s fd ⟨[u], []⟩ [(x, u)])
    (hsp : ∀ H : Hp, Only H → SqL K H a (ns.map V.int) → sp [.ref a] H (fun v _ => v = .bl true) fun _ _ _ => False)
    (hCX : ∀ H e s', CX [] H s₁ (fun _ _ _ => False) e s' → False) :
    codeAny (model P w) callerA (.call (.ref fa) ⟨[.ref a], []⟩) (fun r s' => r = .ok (.ret (.bool true)) ∧ OldK s₁.heap s'.heap ∧ s'.os = s₁.os ∧ AllBare s'.gens) s₁ := by
  have rv := vals_ints hi
  have lenV := hi.length
  -- from an abstract heap in which nothing but the script may be tracked
  have core : ∀ H : Hp, Only H → SqL K H a (ns.map V.int) → HOk P w H s₁.heap → (∀ b, H b ≠ none → b = a) → (H a ≠ none → K.lookup a = none) →
      codeAny (model P w) callerA (.call (.ref fa) ⟨[.ref a], []⟩) (fun r s' => r = .ok (.ret (.bool true)) ∧ OldK s₁.heap s'.heap ∧ s'.os = s₁.os ∧ AllBare s'.gens) s₁ := by
    intro H hO hS hok hA hK
    have base_of : ∀ {b : Addr} {o : Obj}, s₁.heap.get? b = some o → H b = none → (hidT s₁.heap H).get? b = some o := fun e n => hidT_get e n
    have noA : ∀ {b : Addr} {o : Obj} {es : Array DictEntry} {ep : Nat}, s₁.heap.get? b = some o → o.data = .dict es ep → H b = none := fun {b o es ep} e d => by
      cases q : H b with
      | none => rfl
      | some u =>
        have e' : b = a := hA b (by rw [q]; simp)
        subst e'
        rw [ha] at e; cases e
        have d' : Data.seq vs.toArray _ = Data.dict es ep := d
        cases d'
    have nsK : ∀ {b : Addr} {m : Str → Option Value}, s₁.heap.Ns b m → (hidT s₁.heap H).Ns b m := fun {b m} ⟨o, es, ep, e, d, r⟩ => ⟨o, es, ep, base_of e (noA e d), d, r⟩
    have hKb : K.In (hidT s₁.heap H) := fun b o e => base_of (KX b o e) (by
      cases q : H b with
      | none => rfl
      | some u =>
        have e' : b = a := hA b (by rw [q]; simp)
        subst e'
        rw [hK (by rw [q]; simp)] at e; cases e)
    have hM : Mod K mg (hidT s₁.heap H) := ⟨hKb, nsK hns, ⟨mb, nsK hb, hbb⟩, let ⟨mc, h1, h2⟩ := hlim; ⟨mc, nsK h1, h2⟩⟩
    have e0 : Env0 P w K mg (hidT s₁.heap H) callerA [] s₁ H := ⟨rfl, hM, fun b o e => of_hidT e, Nat.le_of_eq (hidT_size _ _), trivial, fun b hb => absurd (show b ∈ ([] : List Addr) from hb) (by simp), hok, .of_eq hg⟩
    refine codeAny_mono ((F _ hKb (nsK hns)).run callerA [] s₁ H ⟨[.ref a], []⟩ [.ref a] [.ref a] _ _ hr e0 (hbind s₁ (.ref a)) (.cons rfl .nil) (hsp H hO hS)) fun r s' h => ?_
    cases r with
    | error e => exact (hCX H e s' h).elim
    | ok fl =>
      cases fl with
      | next => exact False.elim h
      | brk => exact False.elim h
      | cont => exact False.elim h
      | ret u =>
        obtain ⟨v, H', os, bare, un, hok', r', q⟩ := h
        have q' : v = .bl true := q
        subst q'
        obtain rfl : u = Value.bool true := r'
        refine ⟨rfl, OldK.of_keep fun b o e => ?_, os, bare⟩
        cases q : H b with
        | none => exact un.keep b o e q (by intro z; exact absurd (show b ∈ ([] : List Addr) from z) (by simp)) (by simp)
        | some u =>
          rcases hO b with z | ⟨ob, xs, z⟩
          · rw [q] at z; cases z
          · have z2 := un.frzs b ob _ z
            obtain ⟨e1, _⟩ := hok b _ z
            obtain ⟨e2, _⟩ := hok' b _ z2
            rw [e] at e1; cases e1
            exact e2
  cases hk : K.lookup a with
  | some o =>
    -- the script is one of the module's own objects
    have e := KX a o hk
    rw [ha] at e
    cases e
    refine core (fun _ => none) (fun _ => .inl rfl) (.inr ⟨_, vs.toArray, _, hk, rfl, rfl, rfl, by rw [List.size_toArray, lenV]; exact hl, by simpa using rv⟩) (fun b u z => by have z' : (none : Option HO) = some u := z; cases z') (fun b z => absurd rfl z) fun z => absurd rfl z
  | none =>
    refine core (fun b => if b = a then some (.frz { cls := .type "list", data := .seq vs.toArray } (.lst (ns.map V.int))) else none) (fun b => ?_) (.inl (.inr ⟨{ cls := .type "list", data := .seq vs.toArray }, if_pos rfl⟩)) (fun b u z => ?_) (fun b z => ?_) fun _ => hk
    · by_cases hb : b = a
      · exact .inr ⟨_, _, if_pos hb⟩
      · exact .inl (if_neg hb)
    · by_cases hb : b = a
      · have z' := (if_pos hb).symm.trans z
        cases z'
        subst hb
        exact ⟨ha, by rw [List.length_map]; exact hl, vs, _, rv, ha⟩
      · have z' := (if_neg hb).symm.trans z
        cases z'
    · by_cases hb : b = a
      · exact hb
      · exact absurd (if_neg hb) z
end L2

namespace L2
open PySem PySem.Spec PyProof.Rows

/-- the goal that k_head leaves (case hc), from the law's promise. F gives the function object fd (K's own) once, then the promise over every base -/
theorem walk_of {l : PySem.W.OpenLaw} {n k : Nat} {q : Program} {loose : List Str} {XP : (Str → Option Value) → Heap → Prop} {YP : World → Heap → Prop} {d : DefRec} {K : Params → PySem.W.Frag} {CX : World → CXT} {sp : World → Sp} {x : Str}
    (hn : l.most = some n) (hn2 : n ≤ sizeLine) (hdf : d.params.defaults = []) (hr : Room k callerA)
    (hY : ∀ (w : World) (h : Heap), YP w h → (K w.params).In h)
    (F : ∀ (w : World) (mg : Str → Option Value) (fa : Addr) (h : Heap), (K w.params).In h → h.Ns mainGlobals mg → mg d.name = some (.ref fa) →
      ∃ fd : FuncData, (∀ (s : Shared) (u : Value), BindsTo s fd ⟨[u], []⟩ [(x, u)]) ∧
        ∀ base : Heap, (K w.params).In base → base.Ns mainGlobals mg → FnOk l.prog w (K w.params) mg base (CX w) k fa fd [x] (sp w))
    (hsp : ∀ (w : World) (H : Hp) (a : Addr) (ns : List Int), ns.length ≤ n → Only H → SqL (K w.params) H a (ns.map V.int) → sp w [.ref a] H (fun v _ => v = .bl true) fun _ _ _ => False)
    (hCX : ∀ (w : World) (H : Hp) (s : Shared) (e : Value) (s' : Shared), CX w [] H s (fun _ _ _ => False) e s' → False) :
    PySem.W.WalkO q loose XP YP l.row.toRowW d [] (fun f vs => PySem.call f vs) := by
  refine Att.attach_call hn hdf fun w s₀ s₁ mg mb fa o pm cd doc a vs ns G Y ho hd hcd hmg hobj hints hlen hg => ?_
  have KX := hY w _ Y
  obtain ⟨fd, hb, hF⟩ := F w mg fa _ KX G.T.g hmg
  exact law_call KX G.T.g G.T.b G.T.builtins G.T.nolimit hg hobj hints (Nat.le_trans hlen hn2) hr hF hb (fun H hO hS => hsp w H a ns hlen hO hS) fun H e s' => hCX w H s₁ e s'
end L2

/- THE LAST THEOREM (shape; LID, My.* are yours):
   My.Adr: a structure of the addresses that your layer names (classes, functions); My.Txt K t: a structure (Prop) of the equations over K;
   My.txt_mk : {K} {implicit addresses ..} (e1 : nsIn K mainGlobals "law" = some (some (.ref f))) (e2 : K.lookup f = some ⟨oc, od, .func (fnOf "law" "law" params body scope dV kV doc pm an cdv ct), sl⟩) (e3 : codeIn K cdv "law" = true) .. : ∃ t, My.Txt K t

set_option maxRecDepth 100000 in
set_option maxHeartbeats 0 in
theorem PySem.Challenge.cw_LID_holds : PySem.Challenge.rw_LID.Holds := by
  w_on; o_law; k_head; (case hw => w_witness2)
  k_fill
  refine L2.walk_of (l := PySem.Challenge.rw_LID) (n := 63) (k := 40) (x := "script") (CX := fun w => ..) (sp := fun _ => My.sp_law) rfl (by decide) rfl ⟨rfl, by decide, by decide⟩ (fun w h Y => PySem.W.kIn_of Y) ?F ?S ?C
  case F =>
    intro w mg fa h KX G hmg
    have T : ∃ t, My.Txt (L2.KOf KX) t := by
      dsimp only [L2.KOf]                          -- K must stand as «<heap const> w.params» for k_is
      refine' My.txt_mk ?e1 ?e2 ?e3 ..
      (case e1 => PySem.W.k_is)                    -- in the order: a name -> its address -> its object -> its parts
      (case e2 => PySem.W.k_is)
      ..
    obtain ⟨t, T⟩ := T
    have e0 := hmg.symm.trans (PySem.W.mg_of KX G T.law)
    cases e0                                       -- fa is the law's own address
    exact ⟨_, fun s u => .of_eq rfl, fun base kb nb => My.law_fn T kb nb⟩     -- if «.of_eq rfl» comes too early: refine' ⟨_, ?b, fun base kb nb => My.law_fn T kb nb⟩; exact fun s u => .of_eq rfl
  case S => exact fun w H a ns hl hO hS => ..
  case C => exact ..
(the tactic k_is has no namespace: write k_is) -/

/-! SHORT WORDS over the layer: a def of the text, its body, what a loop and a test want. -/
namespace L2
open PySem PySem.Spec PyProof.Rows

/-! ### the text by places -/
def defArgs (s : Stmt) : Arguments := match s with
  | .FunctionDef _ a _ _ _ _ _ _ _ _ => a
  | _ => { posonlyargs := [], args := [], vararg := none, kwonlyargs := [], kw_defaults := [], kwarg := none, defaults := [] }
def defBody (s : Stmt) : List Stmt := match s with
  | .FunctionDef _ _ b _ _ _ _ _ _ _ => b
  | _ => []
def defScope (s : Stmt) : Scope := match s with
  | .FunctionDef _ _ _ _ _ _ sc _ _ _ => sc
  | _ => { kind := .function, names := [], isGenerator := false, isCoroutine := false }

/-! ### no exception leaves a def -/
abbrev CX0 : CXT := fun _ _ _ _ _ _ => False
abbrev E0 : XK := fun _ _ _ => False
theorem pass0 {X : Cx} : Passes CX0 X E0 := fun _ _ _ _ _ _ _ h => h.elim

/-! ### a def (or method) of the text as it stands behind the top -/
structure Fun (K : PySem.W.Frag) (x qual : Str) (st : Stmt) (f : Addr) (fd : FuncData) : Prop where
  ex : ∃ (oc : Value) (od : Option Addr) (kV doc pm : Value) (an : Option Addr) (cdv ct : Value) (osl : Array (Option Value)),
    fd = PySem.W.fnOf x qual (defArgs st) (defBody st) (defScope st) .none kV doc pm an cdv ct ∧ K.lookup f = some ⟨oc, od, .func fd, osl⟩ ∧ PySem.W.codeIn K cdv qual = true
  kp : PySem.W.keepIn K (.ref f) = true
section
variable {P : Program} {w : World} {K : PySem.W.Frag} {mg : Str → Option Value} {base : Heap}
/-- THE RULE for a def: its body as a term of rules, and the reading of that term -/
theorem Fun.ok {x qual : Str} {st : Stmt} {f : Addr} {fd : FuncData} {N ps : List Str} {k : Nat} {sp : Sp} (F : Fun K x qual st f fd) (S : FnScope N ps (defScope st)) (len : ∀ vs H Q E, sp vs H Q E → vs.length = ps.length)
    (hbody : ∀ (cdv : Value) (A : Around) (outer : List Env) (s : Shared) (H : Hp) (vs : List V) (Q : VK) (E : XK), Room k (A.deeper (envOfC qual (defScope st) s.heap.objs.size f cdv)) → sp vs H Q E →
      ∃ t, PSs (cxOf CX0 P w K mg base N qual (defScope st) f cdv A outer s H E).nox (defBody st) t ∧ t { nx := fun _ H' => Q .non H', rt := Q } (start N vs) H) : FnOk P w K mg base CX0 (k + 1) f fd ps sp := by
  obtain ⟨oc, od, kV, doc, pm, an, cdv, ct, osl, rfl, lk, hcd⟩ := F.ex
  refine fn_of lk hcd S len fun A outer s H vs Q E hr hsp => ?_
  obtain ⟨t, h, q⟩ := hbody cdv A outer s H vs Q E hr hsp
  exact ⟨t, h.nox, q⟩
/-- how its arguments bind (no defaults): h is «fun _ _ _ _ _ _ us hl => match us, hl with | [_, _], _ => rfl», one _ a parameter -/
theorem Fun.binds {x qual : Str} {st : Stmt} {f : Addr} {fd : FuncData} {ps : List Str} (F : Fun K x qual st f fd)
    (h : ∀ (kV doc pm : Value) (an : Option Addr) (cdv ct : Value) (us : List Value), us.length = ps.length → bindArgs (PySem.W.fnOf x qual (defArgs st) (defBody st) (defScope st) .none kV doc pm an cdv ct) ⟨us, []⟩ = pure (ps.zip us)) : Binds K fd ps [] := by
  obtain ⟨oc, od, kV, doc, pm, an, cdv, ct, osl, rfl, lk, hcd⟩ := F.ex
  exact .all (h kV doc pm an cdv ct)
theorem fun_mk {x qual : Str} {st : Stmt} {f : Addr} {oc : Value} {od an : Option Addr} {osl : Array (Option Value)} {kV doc pm cdv ct : Value} (l : K.lookup f = some ⟨oc, od, .func (PySem.W.fnOf x qual (defArgs st) (defBody st) (defScope st) .none kV doc pm an cdv ct), osl⟩)
    (c : PySem.W.codeIn K cdv qual = true) (k : PySem.W.keepIn K (.ref f) = true) : Fun K x qual st f (PySem.W.fnOf x qual (defArgs st) (defBody st) (defScope st) .none kV doc pm an cdv ct) := ⟨⟨oc, od, kV, doc, pm, an, cdv, ct, osl, rfl, l, c⟩, k⟩
end
/-! ### expressions in short: the name that stands in the i-th slot -/
section
variable {X : Cx}
theorem pv (i : Nat) {x : Str} {pos : Pos} (hN : X.N[i]? = some x := by rfl) (hv : Vis X.env.scope x := by first | exact Or.inl rfl | exact Or.inr (Or.inl rfl) | exact Or.inr (Or.inr rfl)) (hd : (x == ("__debug__" : Str)) = false := by decide)
    (hcd : (x == ("__classdict__" : Str)) = false := by decide) : PE X (.Name x pos) (tVar i) := pe_var hN hv hd hcd
end

/-! ### tests -/
theorem iteF {A B : Prop} (h : B) : if false = true then A else B := by
  rw [if_neg Bool.false_ne_true]
  exact h
theorem iteT {A B : Prop} (h : A) : if true = true then A else B := by
  rw [if_pos rfl]
  exact h
theorem ite2 {c A B : Prop} [Decidable c] (h1 : c → A) (h2 : ¬ c → B) : if c then A else B := by
  by_cases h : c
  · rw [if_pos h]
    exact h1 h
  · rw [if_neg h]
    exact h2 h
/-! ### heaps -/
/-- all that was tracked is as it was -/
def Same (H H' : Hp) : Prop := ∀ b o, H b = some o → H' b = some o
theorem Same.refl (H : Hp) : Same H H := fun _ _ h => h
theorem Same.trans {H H1 H2 : Hp} (a : Same H H1) (b : Same H1 H2) : Same H H2 := fun c o h => b c o (a c o h)
theorem Same.free {H H' : Hp} (e : Same H H') {l : Addr} (h : H' l = Option.none) : H l = Option.none := by
  cases q : H l with
  | none => rfl
  | some o =>
    rw [e l o q] at h
    cases h
theorem Same.seq {K : PySem.W.Frag} {H H' : Hp} {a : Addr} {xs : List V} (e : Same H H') (h : SqL K H a xs) : SqL K H' a xs := by
  rcases h with (h | ⟨o, h⟩) | h
  · exact .inl (.inl (e _ _ h))
  · exact .inl (.inr ⟨o, e _ _ h⟩)
  · exact .inr h

end L2
end
section
/-! The tree of questions of a sort, asked of keys that are all unlike, sorts. -/
namespace L2
open PySem PySem.W PyProof.Rows
set_option maxHeartbeats 4000000
set_option Elab.async false
set_option linter.unusedVariables false
/-- the places, in some order -/
structure Pm (n : Nat) (p : Array Nat) : Prop where
  perm : p.toList.Perm (List.range n)
section
variable {n : Nat} {p : Array Nat}
theorem Pm.size (h : Pm n p) : p.size = n := by
  have := h.perm.length_eq
  rw [List.length_range, Array.length_toList] at this
  exact this
theorem Pm.lt (h : Pm n p) (n0 : 0 < n) (j : Nat) : p.getD j 0 < n := by
  by_cases c : j < p.size
  · have e : p.getD j 0 = p[j] := by simp [Array.getD, c]
    rw [e]
    exact List.mem_range.mp (h.perm.mem_iff.mp (by simp))
  · have e : p.getD j 0 = 0 := by simp [Array.getD, c]
    rw [e]
    exact n0
theorem Pm.inj (h : Pm n p) {i j : Nat} (hi : i < n) (hj : j < n) (e : p.getD i 0 = p.getD j 0) : i = j := by
  have hi' : i < p.size := by rw [h.size]; exact hi
  have hj' : j < p.size := by rw [h.size]; exact hj
  have e1 : p.getD i 0 = p[i] := by simp [Array.getD, hi']
  have e2 : p.getD j 0 = p[j] := by simp [Array.getD, hj']
  have nd : p.toList.Nodup := h.perm.nodup_iff.mpr List.nodup_range
  rw [e1, e2] at e
  have pw := List.pairwise_iff_getElem.mp nd
  rcases Nat.lt_trichotomy i j with c | c | c
  · exact absurd (by rw [Array.getElem_toList, Array.getElem_toList]; exact e) (pw i j _ _ c)
  · exact c
  · exact absurd (by rw [Array.getElem_toList, Array.getElem_toList]; exact e.symm) (pw j i _ _ c)
theorem Pm.of (h : Pm n p) {q : Array Nat} (hq : q.Perm p) : Pm n q := ⟨(Array.perm_iff_toList_perm.mp hq).trans h.perm⟩
theorem getD_of? {p : Array Nat} {q : Array Nat} {i j : Nat} (h : p[i]? = q[j]?) : p.getD i 0 = q.getD j 0 := by
  rw [Array.getD_eq_getD_getElem?, Array.getD_eq_getD_getElem?, h]
end
/-- the first k rise -/
def Up (key : Nat → Int) (p : Array Nat) (k : Nat) : Prop := ∀ j, 1 ≤ j → j < k → key (p.getD (j - 1) 0) < key (p.getD j 0)
theorem Up.lt {key : Nat → Int} {p : Array Nat} {k : Nat} (h : Up key p k) : ∀ (d i : Nat), i + d + 1 < k → key (p.getD i 0) < key (p.getD (i + d + 1) 0)
  | 0, i, hi => h (i + 1) (by omega) hi
  | d + 1, i, hi => Int.lt_trans (Up.lt h d i (by omega)) (h (i + (d + 1) + 1) (by omega) hi)
theorem Up.lt' {key : Nat → Int} {p : Array Nat} {k i j : Nat} (h : Up key p k) (hij : i < j) (hj : j < k) : key (p.getD i 0) < key (p.getD j 0) := by
  have := h.lt (j - i - 1) i (by omega)
  rwa [show i + (j - i - 1) + 1 = j by omega] at this
section
variable {cmp : Nat → Nat → (Bool → Shared → Prop) → Shared → Prop} {key : Nat → Int} {J : Shared → Prop} {n : Nat} {s : Shared}
/-- each question is answered by the keys -/
def Told (cmp : Nat → Nat → (Bool → Shared → Prop) → Shared → Prop) (key : Nat → Int) (J : Shared → Prop) (n : Nat) : Prop :=
  ∀ i j (C : Bool → Shared → Prop) s, i < n → j < n → J s → (∀ s', J s' → C (decide (key i < key j)) s') → cmp i j C s
theorem go_asc (A : Told cmp key J n) {p : Array Nat} (hp : Pm n p) (n0 : 0 < n) {Q : Nat → Shared → Prop} : ∀ (f m : Nat) (s : Shared), J s → 1 ≤ m → m + f = n →
    (∀ m' s', J s' → m ≤ m' → m' ≤ n → (∀ j, m ≤ j → j < m' → ¬ key (p.getD j 0) < key (p.getD (j - 1) 0)) → (m' < n → key (p.getD m' 0) < key (p.getD (m' - 1) 0)) → Q m' s') → (kas_asc p f m).kasWp cmp Q s
  | 0, m, s, hJ, h1, hf, q => q m s hJ (Nat.le_refl _) (by omega) (fun j a b => by omega) (fun z => by omega)
  | f + 1, m, s, hJ, h1, hf, q => by
    refine A _ _ _ s (hp.lt n0 _) (hp.lt n0 _) hJ fun s' hJ' => ?_
    by_cases c : key (p.getD m 0) < key (p.getD (m - 1) 0)
    · rw [decide_eq_true c]
      dsimp only
      rw [if_pos rfl]
      exact q m s' hJ' (Nat.le_refl _) (by omega) (fun j a b => by omega) fun _ => c
    · rw [decide_eq_false c]
      dsimp only
      rw [if_neg Bool.false_ne_true]
      refine go_asc A hp n0 f (m + 1) s' hJ' (by omega) (by omega) fun m' s2 hJ2 a b d e => q m' s2 hJ2 (by omega) b (fun j x y => ?_) e
      by_cases z : j = m
      · rw [z]; exact c
      · exact d j (by omega) y
theorem go_desc (A : Told cmp key J n) {p : Array Nat} (hp : Pm n p) (n0 : 0 < n) (inj : ∀ i j, i < n → j < n → key i = key j → i = j) {Q : Array Nat × Nat × Nat → Shared → Prop} : ∀ (f m : Nat) (s : Shared), J s → 2 ≤ m → m + f = n →
    (∀ j, 1 ≤ j → j < m → key (p.getD j 0) < key (p.getD (j - 1) 0)) →
    (∀ m' s', J s' → m ≤ m' → m' ≤ n → (∀ j, 1 ≤ j → j < m' → key (p.getD j 0) < key (p.getD (j - 1) 0)) → Q (p, m', 0) s') → (kas_desc f p m 0).kasWp cmp Q s
  | 0, m, s, hJ, h1, hf, dn, q => q m s hJ (Nat.le_refl _) (by omega) dn
  | f + 1, m, s, hJ, h1, hf, dn, q => by
    refine A _ _ _ s (hp.lt n0 _) (hp.lt n0 _) hJ fun s' hJ' => ?_
    by_cases c : key (p.getD m 0) < key (p.getD (m - 1) 0)
    · rw [decide_eq_true c]
      dsimp only
      rw [if_pos rfl, if_neg (by decide)]
      refine go_desc A hp n0 inj f (m + 1) s' hJ' (by omega) (by omega) (fun j x y => ?_) fun m' s2 hJ2 a b d => q m' s2 hJ2 (by omega) b d
      by_cases z : j = m
      · rw [z]; exact c
      · exact dn j x (by omega)
    · rw [decide_eq_false c]
      dsimp only
      rw [if_neg Bool.false_ne_true]
      refine A _ _ _ s' (hp.lt n0 _) (hp.lt n0 _) hJ' fun s2 hJ2 => ?_
      have ne : key (p.getD m 0) ≠ key (p.getD (m - 1) 0) := fun e => by
        have := hp.inj (by omega) (by omega) (inj _ _ (hp.lt n0 _) (hp.lt n0 _) e)
        omega
      rw [decide_eq_true (by omega : key (p.getD (m - 1) 0) < key (p.getD m 0))]
      dsimp only
      rw [if_pos rfl]
      exact q m s2 hJ2 (Nat.le_refl _) (by omega) dn
theorem up_of_not {p : Array Nat} (hp : Pm n p) (n0 : 0 < n) (inj : ∀ i j, i < n → j < n → key i = key j → i = j) {k : Nat} (hk : k ≤ n) (h : ∀ j, 1 ≤ j → j < k → ¬ key (p.getD j 0) < key (p.getD (j - 1) 0)) : Up key p k := fun j h1 h2 => by
  have ne : key (p.getD j 0) ≠ key (p.getD (j - 1) 0) := fun e => by
    have := hp.inj (by omega) (by omega) (inj _ _ (hp.lt n0 _) (hp.lt n0 _) e)
    omega
  have := h j h1 h2
  omega
theorem go_tail (A : Told cmp key J n) {p : Array Nat} (hp : Pm n p) (n0 : 0 < n) (inj : ∀ i j, i < n → j < n → key i = key j → i = j) {m : Nat} (m1 : 1 ≤ m) (mn : m ≤ n) (hJ : J s) (dn : ∀ j, 1 ≤ j → j < m → key (p.getD j 0) < key (p.getD (j - 1) 0)) {Q : Nat × Array Nat → Shared → Prop}
    (q : ∀ k p' s', J s' → Pm n p' → 1 ≤ k → k ≤ n → Up key p' k → Q (k, p') s') : (kas_tail3 m n p).kasWp cmp Q s := by
  have hp' : Pm n (kas_rev p 0 m) := hp.of (mirror_perm _ _ _ _)
  have at_ : ∀ k, k < m → (kas_rev p 0 m).getD k 0 = p.getD (m - 1 - k) 0 := fun k hk => getD_of? (by
    unfold kas_rev
    rw [getElem?_mirror_all (by rw [hp.size]; exact mn), if_pos ⟨Nat.zero_le _, hk⟩]
    congr 1
    omega)
  unfold kas_tail3
  rw [KasT.kasWp_bind]
  refine go_asc A hp' n0 (n - m) m s hJ m1 (by omega) fun k s' hJ' a b d e => q k _ s' hJ' hp' (by omega) b ?_
  intro j h1 h2
  by_cases c : j < m
  · rw [at_ j c, at_ (j - 1) (by omega)]
    have := dn (m - 1 - (j - 1)) (by omega) (by omega)
    rwa [show m - 1 - (j - 1) - 1 = m - 1 - j by omega] at this
  · have ne : key ((kas_rev p 0 m).getD j 0) ≠ key ((kas_rev p 0 m).getD (j - 1) 0) := fun e => by
      have := hp'.inj (by omega) (by omega) (inj _ _ (hp'.lt n0 _) (hp'.lt n0 _) e)
      omega
    have := d j (by omega) h2
    omega
theorem go_count (A : Told cmp key J n) {p : Array Nat} (hp : Pm n p) (n2 : 2 ≤ n) (inj : ∀ i j, i < n → j < n → key i = key j → i = j) (hJ : J s) {Q : Nat × Array Nat → Shared → Prop}
    (q : ∀ k p' s', J s' → Pm n p' → 1 ≤ k → k ≤ n → Up key p' k → Q (k, p') s') : (kas_count n p).kasWp cmp Q s := by
  have n0 : 0 < n := by omega
  unfold kas_count
  rw [KasT.kasWp_bind]
  refine go_asc A hp n0 (n - 1) 1 s hJ (Nat.le_refl _) (by omega) fun m s' hJ' a b d e => ?_
  have up : Up key p m := up_of_not hp n0 inj b d
  by_cases c : m = n
  · rw [if_pos (by rw [c]; exact beq_self_eq_true n)]
    exact q m p s' hJ' hp a b up
  rw [if_neg (by simpa using c)]
  by_cases c1 : m > 1
  · rw [if_pos c1]
    refine A _ _ _ s' (hp.lt n0 _) (hp.lt n0 _) hJ' fun s2 hJ2 => ?_
    rw [decide_eq_true (up.lt' (show 0 < m - 1 by omega) (by omega))]
    dsimp only
    rw [if_pos rfl]
    exact q m p s2 hJ2 hp a b up
  · rw [if_neg c1]
    have em : m = 1 := by omega
    subst em
    unfold kas_descPart
    rw [KasT.kasWp_bind]
    refine go_desc A hp n0 inj (n - (1 + 1)) (1 + 1) s' hJ' (by omega) (by omega) (fun j x y => ?_) fun m' s2 hJ2 x y z => ?_
    · have ej : j = 1 := by omega
      subst ej
      exact e (by omega)
    · dsimp only
      rw [if_neg (by decide)]
      exact go_tail A hp n0 inj (by omega) y hJ2 z q
theorem go_place (A : Told cmp key J n) {p : Array Nat} (hp : Pm n p) (n0 : 0 < n) {k : Nat} (kn : k < n) (up : Up key p k) {Q : Nat → Shared → Prop} : ∀ (f l r : Nat) (s : Shared), J s → r - l ≤ f → l ≤ r → r ≤ k →
    (∀ j, j < l → ¬ key (p.getD k 0) < key (p.getD j 0)) → (∀ j, r ≤ j → j < k → key (p.getD k 0) < key (p.getD j 0)) →
    (∀ l' s', J s' → l' ≤ k → (∀ j, j < l' → ¬ key (p.getD k 0) < key (p.getD j 0)) → (∀ j, l' ≤ j → j < k → key (p.getD k 0) < key (p.getD j 0)) → Q l' s') → (kas_place p k f l r).kasWp cmp Q s
  | 0, l, r, s, hJ, h1, h2, h3, lo, hi, q => q l s hJ (by omega) lo (by rw [show l = r by omega]; exact hi)
  | f + 1, l, r, s, hJ, h1, h2, h3, lo, hi, q => by
    show KasT.kasWp cmp (if l ≥ r then .ret l else _) Q s
    by_cases c : l ≥ r
    · rw [if_pos c]
      exact q l s hJ (by omega) lo (by rw [show l = r by omega]; exact hi)
    rw [if_neg c]
    refine A _ _ _ s (hp.lt n0 _) (hp.lt n0 _) hJ fun s' hJ' => ?_
    by_cases d : key (p.getD k 0) < key (p.getD ((l + r) / 2) 0)
    · rw [decide_eq_true d]
      dsimp only
      rw [if_pos rfl]
      refine go_place A hp n0 kn up f l ((l + r) / 2) s' hJ' (by omega) (by omega) (by omega) lo (fun j x y => ?_) q
      by_cases z : j = (l + r) / 2
      · rw [z]; exact d
      · exact Int.lt_trans d (up.lt' (by omega) y)
    · rw [decide_eq_false d]
      dsimp only
      rw [if_neg Bool.false_ne_true]
      refine go_place A hp n0 kn up f ((l + r) / 2 + 1) r s' hJ' (by omega) (by omega) (by omega) (fun j x => ?_) hi q
      by_cases z : j = (l + r) / 2
      · rw [z]; exact d
      · have := up.lt' (i := j) (j := (l + r) / 2) (by omega) (by omega)
        omega
theorem go_bin (A : Told cmp key J n) (n0 : 0 < n) (inj : ∀ i j, i < n → j < n → key i = key j → i = j) {Q : Array Nat → Shared → Prop} : ∀ (f : Nat) (p : Array Nat) (k : Nat) (s : Shared), J s → Pm n p → k + f = n → Up key p k →
    (∀ p' s', J s' → Pm n p' → Up key p' n → Q p' s') → (kas_bin f p k).kasWp cmp Q s
  | 0, p, k, s, hJ, hp, hf, up, q => q p s hJ hp (by rw [← hf]; exact up)
  | f + 1, p, k, s, hJ, hp, hf, up, q => by
    have kn : k < n := by omega
    show KasT.kasWp cmp ((kas_place p k k 0 k).bind fun l => kas_bin f (bubble p k (k - l)) (k + 1)) Q s
    rw [KasT.kasWp_bind]
    refine go_place A hp n0 kn up k 0 k s hJ (by omega) (Nat.zero_le _) (Nat.le_refl _) (fun j z => by omega) (fun j x y => by omega) fun l s' hJ' lk lo hi => ?_
    have at_ : ∀ j, (bubble p k (k - l)).getD j 0 = if j = l then p.getD k 0 else if l < j ∧ j ≤ k then p.getD (j - 1) 0 else p.getD j 0 := fun j => by
      have g := getElem?_bubble (xs := p) (src := k) (by rw [hp.size]; exact kn) (k - l) (by omega) j
      rw [show k - (k - l) = l by omega] at g
      split
      · rename_i c; rw [if_pos c] at g; exact getD_of? g
      · rename_i c
        rw [if_neg c] at g
        split
        · rename_i d; rw [if_pos d] at g; exact getD_of? g
        · rename_i d; rw [if_neg d] at g; exact getD_of? g
    refine go_bin A n0 inj f _ (k + 1) s' hJ' (hp.of (bubble_perm _ _ _)) (by omega) (fun j h1 h2 => ?_) q
    rw [at_, at_]
    by_cases c1 : j = l
    · subst c1
      rw [if_neg (by omega), if_neg (by omega), if_pos rfl]
      have := lo (j - 1) (by omega)
      have ne : key (p.getD k 0) ≠ key (p.getD (j - 1) 0) := fun e => by
        have := hp.inj (by omega) (by omega) (inj _ _ (hp.lt n0 _) (hp.lt n0 _) e)
        omega
      omega
    · rw [if_neg c1]
      by_cases c2 : l < j
      · rw [if_pos (show l < j ∧ j ≤ k by omega)]
        by_cases c3 : j - 1 = l
        · rw [if_pos c3]
          exact hi (j - 1) (by omega) (by omega)
        · rw [if_neg c3, if_pos (show l < j - 1 ∧ j - 1 ≤ k by omega)]
          exact up (j - 1) (by omega) (by omega)
      · rw [if_neg (show ¬(l < j ∧ j ≤ k) by omega), if_neg (by omega), if_neg (by omega)]
        exact up j h1 (by omega)
theorem go_sort (A : Told cmp key J n) (n2 : 2 ≤ n) (inj : ∀ i j, i < n → j < n → key i = key j → i = j) (hJ : J s) {Q : Array Nat → Shared → Prop} (q : ∀ p s', J s' → Pm n p → Up key p n → Q p s') : (kas_sort n).kasWp cmp Q s := by
  unfold kas_sort
  rw [KasT.kasWp_bind]
  refine go_count A ⟨by simp⟩ n2 inj hJ fun k p s' hJ' hp k1 kn up => ?_
  dsimp only
  by_cases c : k < n
  · rw [if_pos c, show max k 1 = k by omega]
    exact go_bin A (by omega) inj (n - k) p k s' hJ' hp (by omega) up q
  · rw [if_neg c]
    exact q p s' hJ' hp (by rw [show n = k by omega]; exact up)
end
end L2
end
section
/-! COMPREHENSIONS over the hand layer: the block as a context of its own. -/
namespace L2
open PySem PySem.Spec PyProof.Rows
set_option maxHeartbeats 4000000
set_option Elab.async false
set_option linter.unusedVariables false

/-! ### the names of a block -/
theorem relab_free {env : Env} : ∀ {ns : List (Str × NameKind)} {x : Str}, ns.lookup x = some .free →
    (ns.map fun (n, k) => if (k == NameKind.free && env.scope.kind == .function && env.kindOf n == some .cell) then (n, NameKind.cell) else (n, k)).lookup x = some .cell ∨
    (ns.map fun (n, k) => if (k == NameKind.free && env.scope.kind == .function && env.kindOf n == some .cell) then (n, NameKind.cell) else (n, k)).lookup x = some .free
  | [], _, h => by simp at h
  | (n, k) :: r, x, h => by
    rw [List.map_cons]
    by_cases e : (x == n) = true
    · rw [List.lookup_cons, e] at h
      have hk : k = .free := by simpa using h
      subst hk
      by_cases q : (NameKind.free == NameKind.free && env.scope.kind == .function && env.kindOf n == some .cell) = true
      · left; dsimp only; rw [if_pos q, List.lookup_cons, e]
      · right; dsimp only; rw [if_neg q, List.lookup_cons, e]
    · have e' : (x == n) = false := by simpa using e
      rw [List.lookup_cons, e'] at h
      have ih := relab_free (env := env) h
      dsimp only
      split <;> (rw [List.lookup_cons, e']; exact ih)
theorem relab_back {env : Env} : ∀ {ns : List (Str × NameKind)} {x : Str} {k : NameKind}, (∀ y ∈ ns, y.2 ≠ .cell) → (k = .cell ∨ k = .free) →
    (ns.map fun (n, k) => if (k == NameKind.free && env.scope.kind == .function && env.kindOf n == some .cell) then (n, NameKind.cell) else (n, k)).lookup x = some k → (x, NameKind.free) ∈ ns
  | [], _, _, _, _, h => by simp at h
  | (n, k') :: r, x, k, nc, hk, h => by
    rw [List.map_cons] at h
    have ih := relab_back (env := env) (ns := r) (x := x) (k := k) (fun y hy => nc y (List.mem_cons_of_mem _ hy)) hk
    by_cases e : (x == n) = true
    · have ex : x = n := by simpa using e
      subst ex
      by_cases q : (k' == NameKind.free && env.scope.kind == .function && env.kindOf x == some .cell) = true
      · have : k' = .free := by
          cases k' <;> first | rfl | (simp at q)
        subst this
        exact List.mem_cons_self
      · dsimp only at h
        rw [if_neg q, List.lookup_cons, e] at h
        have : k' = k := by simpa using h
        subst this
        rcases hk with z | z
        · exact absurd z (nc (x, k') List.mem_cons_self)
        · subst z; exact List.mem_cons_self
    · have e' : (x == n) = false := by simpa using e
      refine List.mem_cons_of_mem _ (ih ?_)
      dsimp only at h
      split at h <;> (rw [List.lookup_cons, e'] at h; exact h)

/-! ### what a block closes over -/
theorem clos_step {env : Env} : ∀ (ns : List (Str × NameKind)) (acc : List (Str × Addr)), (∀ y ∈ ns, y.2 = .free → ∃ c, env.cells.lookup y.1 = some c) →
    (∀ x c, acc.lookup x = some c → env.cells.lookup x = some c) →
    ∃ cl : List (Str × Addr), (forIn ns acc fun x r => (match x with | (name, kind) => if (kind == NameKind.free) = true then do let c ← cellOf env name; pure (ForInStep.yield ((name, c) :: r)) else pure (ForInStep.yield r) : Sem (ForInStep (List (Str × Addr)))) : Sem (List (Str × Addr))) = pure cl ∧
      (∀ x c, cl.lookup x = some c → env.cells.lookup x = some c) ∧ (∀ x, (x, NameKind.free) ∈ ns → ∃ c, cl.lookup x = some c) ∧ ∀ x c, acc.lookup x = some c → ∃ c', cl.lookup x = some c'
  | [], acc, _, hacc => ⟨acc, rfl, hacc, fun _ h => absurd h (by simp), fun x c h => ⟨c, h⟩⟩
  | (n, k) :: r, acc, hfr, hacc => by
    by_cases q : (k == NameKind.free) = true
    · have hk : k = .free := by cases k <;> first | rfl | (simp at q)
      subst hk
      obtain ⟨c, hc⟩ := hfr (n, .free) List.mem_cons_self rfl
      have hof : cellOf env n = pure c := by unfold cellOf; rw [hc]
      obtain ⟨cl, h1, h2, h3, h4⟩ := clos_step (env := env) r ((n, c) :: acc) (fun y hy => hfr y (List.mem_cons_of_mem _ hy)) (fun x c' h => by
        by_cases e : (x == n) = true
        · have ex : x = n := by simpa using e
          subst ex
          rw [List.lookup_cons, e] at h
          have : c = c' := by simpa using h
          rw [← this]; exact hc
        · have e' : (x == n) = false := by simpa using e
          rw [List.lookup_cons, e'] at h
          exact hacc x c' h)
      refine ⟨cl, ?_, h2, fun x hx => ?_, fun x c' h => ?_⟩
      · rw [List.forIn_cons]
        dsimp only
        rw [if_pos q, hof]
        exact h1
      · rcases List.mem_cons.mp hx with e | e
        · cases e
          exact h4 n c (by simp)
        · exact h3 x e
      · by_cases e : (x == n) = true
        · have ex : x = n := by simpa using e
          subst ex
          exact h4 x c (by simp)
        · have e' : (x == n) = false := by simpa using e
          exact h4 x c' (by rw [List.lookup_cons, e']; exact h)
    · obtain ⟨cl, h1, h2, h3, h4⟩ := clos_step (env := env) r acc (fun y hy => hfr y (List.mem_cons_of_mem _ hy)) hacc
      refine ⟨cl, ?_, h2, fun x hx => ?_, h4⟩
      · rw [List.forIn_cons]
        dsimp only
        rw [if_neg q]
        exact h1
      · rcases List.mem_cons.mp hx with e | e
        · cases e
          exact absurd rfl q
        · exact h3 x e
theorem clos_of {env : Env} {scope : Scope} (hfr : ∀ y ∈ scope.names, y.2 = .free → ∃ c, env.cells.lookup y.1 = some c) :
    ∃ cl : List (Str × Addr), closureFor scope env = pure cl ∧ (∀ x c, cl.lookup x = some c → env.cells.lookup x = some c) ∧ ∀ x, (x, NameKind.free) ∈ scope.names → ∃ c, cl.lookup x = some c := by
  obtain ⟨cl, h1, h2, h3, _⟩ := clos_step (env := env) scope.names [] hfr (fun x c h => by simp at h)
  refine ⟨cl, ?_, h2, h3⟩
  unfold closureFor
  dsimp only
  rw [h1]
  rfl

/-! ### the block -/
/-- the outer names' values, behind nt targets -/
def inner (nt : Nat) (js : List Nat) (σ : St) : St := List.replicate nt none ++ js.map fun j => (σ[j]?).join
/-- the context of the block -/
def blk (X : Cx) (N : List Str) (scope : Scope) (cl : List (Str × Addr)) (C : Addr) (s : Shared) (H : Hp) (fp : List Addr) : Cx :=
  { X with N := N, s₀ := s, H₀ := H, env := compEnvC scope cl C X.env, outer := X.stack, ex := fp, fn := fun _ => false, pn := [], xe := fun _ _ => False }
/-- what a block asks of the two scopes: sc the outer one, N0 the outer names -/
structure Blk (sc : Scope) (N0 : List Str) (N : List Str) (nt : Nat) (js : List Nat) (scope : Scope) : Prop where
  kind : scope.kind = .function
  loc : ∀ y ∈ scope.names, y.2 = .local → scope.names.lookup y.1 = some .local
  nocell : ∀ y ∈ scope.names, y.2 ≠ .cell
  cap : ∀ y ∈ scope.names, y.2 = .free → sc.names.lookup y.1 = some .cell ∨ sc.names.lookup y.1 = some .free
  len : N.length = nt + js.length
  out : N.drop nt = js.map fun j => N0.getD j ""
  js : ∀ j ∈ js, j < N0.length
  fr : ∀ x ∈ N.drop nt, scope.names.lookup x = some .free
  nd : N.Nodup

theorem inner_get {nt : Nat} {js : List Nat} {σ : St} {i : Nat} {v : V} (h : (inner nt js σ)[i]? = some (some v)) : ∃ k j, i = nt + k ∧ js[k]? = some j ∧ σ[j]? = some (some v) := by
  unfold inner at h
  by_cases hi : i < nt
  · rw [List.getElem?_append_left (by simpa using hi), List.getElem?_replicate, if_pos hi] at h
    cases h
  · rw [List.getElem?_append_right (by simpa using hi), List.length_replicate, List.getElem?_map] at h
    cases e : js[i - nt]? with
    | none => rw [e] at h; cases h
    | some j =>
      rw [e] at h
      refine ⟨i - nt, j, by omega, e, ?_⟩
      have h' : (σ[j]?).join = some v := by simpa using h
      cases e2 : σ[j]? with
      | none => rw [e2] at h'; cases h'
      | some o => rw [e2] at h'; cases o with
        | none => cases h'
        | some w => have : w = v := by simpa using h'
                    rw [this]

section
variable {X : Cx} {pins : List (Addr × Obj)} {σ : St} {H : Hp} {s : Shared} {N : List Str} {nt : Nat} {js : List Nat} {scope : Scope} {cl : List (Str × Addr)} {fp : List Addr}
theorem blk_start {h' : Heap} {tk : Nat} (I : Inv X pins σ H s) (B : Blk X.env.scope X.N N nt js scope)
    (c1 : ∀ x c, cl.lookup x = some c → X.env.cells.lookup x = some c) (c2 : ∀ x, (x, NameKind.free) ∈ scope.names → ∃ c, cl.lookup x = some c)
    (hf : ∀ b ∈ fp, FpOk X pins H b) (hlt : ∀ b ∈ fp, b < s.heap.objs.size)
    (kp : ∀ b o, s.heap.get? b = some o → h'.get? b = some o) (hC : h'.Ns (s.heap.objs.size + 1) fun _ => none)
    (hD : h'.get? s.heap.objs.size = some { cls := .type "list", data := .seq ([] : List Value).toArray 0 }) :
    Inv (blk X N scope cl (s.heap.objs.size + 1) s H fp) [] (inner nt js σ) (upd H s.heap.objs.size (.lst [])) { s with heap := h', toks := tk } := by
  have hfr : ∀ a, s.heap.objs.size ≤ a → H a = none := fun a ha => I.hok.fresh ha
  have cold : ∀ x c, X.env.cells.lookup x = some c → c < s.heap.objs.size := fun x c e => by
    obtain ⟨v, q⟩ := I.cell x c e
    exact q.lt
  refine ⟨⟨I.ok.mod, B.kind, I.ok.glob, I.ok.blt, Nat.le_succ _, fun x y c a b => I.ok.inj x y c (c1 x c a) (c1 y c b), fun x hx => ?_, fun x c z _ => absurd z Bool.false_ne_true, I.ok.hd, I.ok.frames, .inl rfl, fun b hb => ?_, I.bs, Nat.le_trans I.ok.bsz I.sz, fun b o e hb => ?_, fun b hb z => ?_, I.stack, I.stkFree⟩,
    rfl, I.bare, Un.laid kp (Nat.le_refl _) (hfr _ (Nat.le_refl _)), ⟨_, hC, fun i x v h1 h2 h3 => ?_⟩, fun x c e => ?_, ?_, fun x c e => ?_, fun p hp => absurd (show p ∈ ([] : List (Addr × Obj)) from hp) (by simp), I.hok.laid kp (Nat.le_refl _) ⟨Nat.zero_le _, [], 0, .nil, hD⟩, ?_⟩
  · have : (x, NameKind.free) ∈ scope.names := hx.elim (fun z => relab_back B.nocell (.inl rfl) z) fun z => relab_back B.nocell (.inr rfl) z
    exact c2 x this
  · refine ⟨Nat.ne_of_lt (Nat.lt_succ_of_lt (hlt b hb)), fun x c e => (hf b hb).2.2.2.2.1 x c (c1 x c e)⟩
  · rcases (hf b hb).2.2.2.1 with z | z
    · exact I.ok.noex b o e z
    · exact absurd (Nat.lt_of_lt_of_le (Heap.lt_size (I.ok.bs b o e).1) z) (Nat.lt_irrefl _)
  · rcases List.mem_cons.mp (I.stkSub b z) with q | q
    · exact (hf b hb).2.1 q
    · exact (hf b hb).2.2.1 q
  · obtain ⟨k, j, rfl, hk, hv⟩ := inner_get h2
    have hkl : k < js.length := (List.getElem?_eq_some_iff.mp hk).1
    have h1' : (N.drop nt)[k]? = some x := by rw [List.getElem?_drop]; exact h1
    have hxm : x ∈ N.drop nt := List.mem_of_getElem? h1'
    have hfree : scope.names.lookup x = some .free := B.fr x hxm
    have hj : X.N[j]? = some x := by
      rw [B.out, List.getElem?_map, hk] at h1'
      have hjl : j < X.N.length := B.js j (List.mem_of_getElem? hk)
      rw [List.getElem?_eq_getElem hjl]
      have e : X.N.getD j "" = x := by simpa using h1'
      rw [← e]
      simp [List.getD_eq_getElem?_getD, List.getElem?_eq_getElem hjl]
    have hcap := B.cap _ (PySem.mem_of_lookup hfree) rfl
    obtain ⟨m, hn, hl⟩ := I.loc
    obtain ⟨u, ru, lk⟩ := hl j x v hj hv (hcap.elim (fun z => .inr (.inl z)) fun z => .inr (.inr z))
    refine ⟨u, ru, .inr ⟨relab_free hfree, ?_⟩⟩
    rcases lk with ⟨z, _⟩ | ⟨_, c, e, q⟩
    · exact absurd (show X.env.scope.names.lookup x = some .local from z) (by rcases hcap with y | y <;> (rw [y]; decide))
    · obtain ⟨c', e'⟩ := c2 x (PySem.mem_of_lookup hfree)
      have ec := c1 x c' e'
      rw [e] at ec
      cases ec
      obtain ⟨o, ho, hd⟩ := q
      exact ⟨c, e', o, kp c o ho, hd⟩
  · obtain ⟨v, o, ho, hd⟩ := I.cell x c (c1 x c e)
    exact ⟨v, o, kp c o ho, hd⟩
  · show upd H _ _ (s.heap.objs.size + 1) = none
    rw [upd_ne (Nat.ne_of_gt (Nat.lt_succ_self _))]
    exact hfr _ (Nat.le_succ _)
  · show upd H _ _ c = none
    rw [upd_ne (Nat.ne_of_lt (cold x c (c1 x c e)))]
    exact I.freeC x c (c1 x c e)
  · show (inner nt js σ).length = N.length
    unfold inner
    rw [List.length_append, List.length_replicate, List.length_map, B.len]
end

/-! ### the tests of a clause -/
def PTs (X : Cx) (ifs : List Expr) (t : TT) : Prop :=
  ∀ (pins : List (Addr × Obj)) (s : Shared) (σ : St) (H : Hp) (Q : Bool → Hp → Prop), Inv X pins σ H s → t σ H Q →
    wpAny (model X.prog X.w) X.A (forIn ifs true fun c r => if r = true then do let ok ← isTrue c X.env (eval c X.env); pure (ForInStep.yield ok) else pure (ForInStep.yield r)) (TP X pins σ Q) X.xe s
def tYes : TT := fun _ H Q => Q true H
theorem pts_nil {X : Cx} : PTs X [] tYes := fun _ _ _ H _ I h => wpAny_tests_nil ⟨H, I, h⟩
theorem pts_one {X : Cx} {c : Expr} {t : TT} (h : PT X c t) : PTs X [c] t := fun pins s σ H Q I q => wpAny_tests_one (h pins s σ H Q I q)

/-! ### the loop -/
section
variable {prog : Program} {w : World} {A : Around} {s : Shared} {R : Result → Shared → Prop}
theorem comp_turns {elt tg iter : Expr} {ifs : List Expr} {scope : Scope} {pos : Pos} {it acc : Value} {env : Env} (J : Nat → Shared → Prop)
    (turn : ∀ n s, J n s → wpAny (model prog w) A (pyNext it) (fun r s1 => match r with
      | none => R (.ok .next) s1
      | some v => wpAny (model prog w) A (letOwnedTupleGo tg it v) (fun _ s2 => wpAny (model prog w) A (assign tg env v) (fun _ s3 =>
          wpAny (model prog w) A (forIn ifs true fun c r => if r = true then do let ok ← isTrue c env (eval c env); pure (ForInStep.yield ok) else pure (ForInStep.yield r)) (fun ok s4 =>
            if ok = true then wpAny (model prog w) A (eval elt env) (fun x s5 => wpAny (model prog w) A (call (.builtin "list.append") [acc, x]) (fun _ s6 => ∃ m, m < n ∧ J m s6) (fun _ _ => False) s5) (fun _ _ => False) s4
            else ∃ m, m < n ∧ J m s4) (fun _ _ => False) s3) (fun _ _ => False) s2) (fun _ _ => False) s1) (fun _ _ => False) s)
    (n : Nat) (h : J n s) : codeAny (model prog w) A (.compLoop (.ListComp elt [⟨tg, iter, ifs, 0⟩] scope pos) 0 it acc env) R s := by
  refine codeAny_loop rfl J (fun k s' hJ => ?_) n h
  show wpAny _ A ((compTurn (.ListComp elt [⟨tg, iter, ifs, 0⟩] scope pos) 0 it acc env).onRaise (fun x => do noteFrame x env; theTreesLotGoes x)) _ _ s'
  refine wpAny_noted ?_
  rw [compTurn_list]
  refine wpAny_bind (wpAny_standAt (wpAny_bind (wpAny_mono (turn k s' hJ) (fun r s1 q1 => ?_) fun _ _ z => z.elim)))
  cases r with
  | none => exact wpAny_pure q1
  | some v =>
    refine wpAny_bind (wpAny_mono q1 (fun _ s2 q2 => wpAny_bind (wpAny_mono q2 (fun _ s3 q3 => wpAny_bind (wpAny_mono q3 (fun ok s4 q4 => ?_) fun _ _ z => z.elim)) fun _ _ z => z.elim)) fun _ _ z => z.elim)
    cases ok with
    | false => exact wpAny_pure ⟨rfl, q4⟩
    | true => exact wpAny_bind (wpAny_bind (wpAny_mono q4 (fun x s5 q5 => wpAny_bind (wpAny_mono q5 (fun _ s6 q6 => wpAny_pure (wpAny_pure ⟨rfl, q6⟩)) fun _ _ z => z.elim)) fun _ _ z => z.elim))
end

/-! ### THE RULE -/
/-- W: the invariant by the turn and a measure; D: the new list -/
def cmpW (J : It) (g : TG) (tt : TT) (te : TE) (Q : VK) (D : Addr) (σ0 : St) (H1 : Hp) : Prop := ∃ W : Nat → Nat → St → Hp → Prop, (∃ m, W 0 m σ0 (upd H1 D (.lst []))) ∧
  ∀ i m σ' H', W i m σ' H' → (J.stop i H' ∧ Q (.ref D) H') ∨ (J.go i H' ∧ ∀ x H2, J.yld i H' x H2 → g x σ' H2 fun σ3 H3 => tt σ3 H3 fun ok H4 =>
    if ok = true then te σ3 H4 fun y H5 => ∃ ys, H5 D = some (.lst ys) ∧ ys.length < sizeLine ∧ ∃ m', m' < m ∧ W (i + 1) m' σ3 (upd H5 D (.lst (ys ++ [y]))) else ∃ m', m' < m ∧ W (i + 1) m' σ3 H4)
def tComp (nt : Nat) (js : List Nat) (wi : TI) (g : TG) (tt : TT) (te : TE) : TE := fun σ H Q => wi σ H fun J H1 => ∀ D, H1 D = none → cmpW J g tt te Q D (inner nt js σ) H1
theorem pe_comp {X : Cx} {elt tg iter : Expr} {ifs : List Expr} {scope : Scope} {pos : Pos} {N : List Str} {nt : Nat} {js : List Nat} {sc : Scope} {N0 : List Str} {wi : TI} {g : TG} {tt : TT} {te : TE}
    (hc : X.calm = true) (hsc : X.env.scope = sc) (hN : X.N = N0) (B : Blk sc N0 N nt js scope) (hi : PI X tg iter wi)
    (hg : ∀ cl C s H fp, PG (blk X N scope cl C s H fp) tg g) (ht : ∀ cl C s H fp, PTs (blk X N scope cl C s H fp) ifs tt) (he : ∀ cl C s H fp, PE (blk X N scope cl C s H fp) elt te)
    (hs : ∀ x, foldedSetIterable iter X.env x = pure x := by intro _; rfl) : PE X (.ListComp elt [⟨tg, iter, ifs, 0⟩] scope pos) (tComp nt js wi g tt te) := by
  subst hsc hN
  intro pins s σ H Q I h
  obtain ⟨cl, hcl, c1, c2⟩ := clos_of (env := X.env) (scope := scope) fun y hy hk => I.ok.has y.1 (B.cap y hy hk)
  rw [eval_ListComp]
  refine wpAny_comprehension_free (use := none) rfl hs hcl B.kind B.loc (thn (hi pins s σ H _ I h) fun v s1 q1 => thn q1 fun itv s2 q2 => ?_)
  obtain ⟨it, fp, tn, J, H2, e, I2, T, st2, f2, q2⟩ := q2
  subst e
  obtain ⟨W, ⟨m0, w0⟩, turn⟩ := q2 s2.heap.objs.size (I2.hok.fresh (Nat.le_refl _))
  have hlt : ∀ b ∈ fp, b < s2.heap.objs.size := fun b hb => by
    obtain ⟨o, eo, _⟩ := T.obj _ _ st2 b hb
    exact Heap.lt_size eo
  refine wpAny_newObj_type (wpAny_newFunctionEnv B.nocell (by intro y hy; simp at hy) (fun h1 hns hsb => ?_) B.kind)
  dsimp only at hns hsb ⊢
  have hsz : (s2.heap.push { cls := .type "list", dict := none, data := .seq ([] : List Value).toArray }).objs.size = s2.heap.objs.size + 1 := by rw [Heap.size_push]
  have old : ∀ b o, s2.heap.get? b = some o → h1.get? b = some o := fun b o eb => hsb.extBut b o (by rw [hsz]; exact Nat.ne_of_lt (Nat.lt_succ_of_lt (Heap.lt_size eb))) (Heap.get?_push_of_some _ (Heap.get?_push_of_some _ eb))
  have hD : h1.get? s2.heap.objs.size = some { cls := .type "list", data := .seq ([] : List Value).toArray 0 } := hsb.extBut _ _ (by rw [hsz]; exact Nat.ne_of_lt (Nat.lt_succ_self _)) (Heap.get?_push_of_some _ (Heap.get?_push_size _ rfl))
  rw [hsz] at hns
  have I3 := blk_start (cl := cl) (fp := fp) (tk := s2.toks + ([] : List (Str × Value)).length) I2 B c1 c2 f2 hlt old (show h1.Ns (s2.heap.objs.size + 1) fun _ => none from hns) hD
  have stat : ∀ {H' : Hp}, (∀ b ∈ fp, H' b = none) → ∀ b ∈ fp, FpOk (blk X N scope cl (s2.heap.objs.size + 1) s2 H2 fp) [] H' b := fun {H'} hn b hb =>
    ⟨hn b hb, Nat.ne_of_lt (Nat.lt_succ_of_lt (hlt b hb)), fun z => (List.mem_cons.mp (I2.stkSub b z)).elim (f2 b hb).2.1 (f2 b hb).2.2.1, .inl hb, fun x c ec => (f2 b hb).2.2.2.2.1 x c (c1 x c ec), fun p hp => absurd (show p ∈ ([] : List (Addr × Obj)) from hp) (by simp)⟩
  have fin : ∀ {i : Nat} {σ' : St} {H' : Hp} {s' : Shared}, Inv (blk X N scope cl (s2.heap.objs.size + 1) s2 H2 fp) [] σ' H' s' → Q (.ref s2.heap.objs.size) H' →
      compPost (model X.prog X.w) X.A X.xe none (EP X pins σ Q) (.ref s2.heap.objs.size) (s2.heap.objs.size + 1) (.ok .next) s' := fun {i σ' H' s'} Ib q => by
    obtain ⟨m, hn, _⟩ := id Ib.loc
    refine ⟨m, hn, fun h'' hs'' => ?_⟩
    have I4 : Inv X pins σ H' s' := I2.call' Ib.os Ib.base Ib.hok Ib.bare fun b hb => ⟨(f2 b hb).2.2.2.1, (f2 b hb).2.1, (f2 b hb).2.2.2.2.1, (f2 b hb).2.2.2.2.2⟩
    obtain ⟨g0, g1, g2, g3, g4, g5⟩ := I2.fpOk (H' := H') (Nat.le_succ _) Ib.free
    exact ⟨.ref s2.heap.objs.size, H', I4.turned (t' := s'.toks) (fun b o hb eb => hs''.extBut b o hb eb) g0 g1 g3 g4 g5, rfl, q⟩
  have loop : codeAny (model X.prog X.w) X.A (.compLoop (.ListComp elt [⟨tg, iter, ifs, 0⟩] scope pos) 0 (.ref it) (.ref s2.heap.objs.size) (compEnvC scope cl (s2.heap.objs.size + 1) X.env))
      (compPost (model X.prog X.w) X.A X.xe none (EP X pins σ Q) (.ref s2.heap.objs.size) (s2.heap.objs.size + 1)) { s2 with heap := h1, toks := s2.toks + ([] : List (Str × Value)).length } := by
    refine comp_turns (fun n s' => ∃ i σ' H', Inv (blk X N scope cl (s2.heap.objs.size + 1) s2 H2 fp) [] σ' H' s' ∧ tn i s'.heap ∧ (∀ b ∈ fp, H' b = none) ∧ W i n σ' H') ?_ m0
      ⟨0, _, _, I3, T.keep _ _ _ st2 fun b _ o eb => old b o eb, fun b hb => ?_, w0⟩
    · rintro n s3 ⟨i, σ3, H3, J3, st3, fr3, w3⟩
      rcases turn i n σ3 H3 w3 with ⟨stop, qn⟩ | ⟨go, step⟩
      · refine thn (T.done (blk X N scope cl (s2.heap.objs.size + 1) s2 H2 fp) rfl rfl rfl hc i [] s3 σ3 H3 _ J3 (stat fr3) st3 stop) fun r s4 ⟨hr, I4⟩ => ?_
        subst hr
        exact fin (i := i) I4 qn
      · refine thn (T.item (blk X N scope cl (s2.heap.objs.size + 1) s2 H2 fp) rfl rfl rfl hc i [] s3 σ3 H3 _ J3 (stat fr3) st3 go) fun r s4 ⟨u, hr, h4⟩ => ?_
        subst hr
        refine thn h4 fun _ s5 ⟨x, H5, I5, r5, y5, st5, fr5⟩ => ?_
        have I5' := I5.pinned (stat fr5) (T.obj _ _ st5)
        refine thn (hg _ _ _ _ _ _ s5 σ3 H5 x u _ I5' r5 (step x H5 y5)) fun _ s6 ⟨σ6, H6, I6, q6⟩ => ?_
        have again : ∀ {σ7 : St} {H7 : Hp} {s7 : Shared} {k : Nat}, Inv (blk X N scope cl (s2.heap.objs.size + 1) s2 H2 fp) ([] ++ pinsAt fp s5.heap) σ7 H7 s7 → k < n → W (i + 1) k σ7 H7 →
            ∃ k, k < n ∧ ∃ i σ' H', Inv (blk X N scope cl (s2.heap.objs.size + 1) s2 H2 fp) [] σ' H' s7 ∧ tn i s7.heap ∧ (∀ b ∈ fp, H' b = none) ∧ W i k σ' H' := fun {σ7 H7 s7 k} I7 hk w7 => by
          refine ⟨k, hk, i + 1, σ7, H7, I7.unpinned, T.keep _ _ _ st5 fun b hb o eb => (I7.pin (b, o) (List.mem_append_right _ (List.mem_append_right _ (mem_pinsAt hb eb)))).1, fun b hb => ?_, w7⟩
          obtain ⟨o, eb, _⟩ := T.obj _ _ st5 b hb
          exact (I7.pin (b, o) (List.mem_append_right _ (List.mem_append_right _ (mem_pinsAt hb eb)))).2.1
        refine thn (ht _ _ _ _ _ _ s6 σ6 H6 _ I6 q6) fun ok s7 ⟨H7, I7, q7⟩ => ?_
        cases ok with
        | false =>
          rw [if_neg Bool.false_ne_true] at q7 ⊢
          obtain ⟨k, hk, w7⟩ := q7
          exact again I7 hk w7
        | true =>
          rw [if_pos rfl] at q7 ⊢
          refine thn (he _ _ _ _ _ _ s7 σ6 H7 _ I7 q7) fun y s8 ⟨v8, H8, I8, r8, ys, e8, z8, k, hk, w8⟩ => ?_
          refine thn (mt_append _ s8 σ6 H8 (.ref s2.heap.objs.size) [v8] _ [y] (fun _ H9 => W (i + 1) k σ6 H9) I8 rfl (.cons r8 .nil) ⟨_, ys, v8, rfl, rfl, e8, z8, w8⟩) fun _ s9 ⟨_, H9, I9, _, w9⟩ => ?_
          exact again I9 hk w9
    · show upd H2 _ _ b = none
      rw [upd_ne (Nat.ne_of_lt (hlt b hb))]
      exact (f2 b hb).1
  rw [hsz]
  exact codeAny_compStart_list loop (T.self _ 0 _ _ _ (T.keep _ _ _ st2 fun b _ o eb => old b o eb) loop)
end L2
end
section
/-! SMALL RULES over the hand layer. -/
namespace L2
open PySem PySem.Spec PyProof.Rows
set_option maxHeartbeats 4000000
set_option Elab.async false
set_option linter.unusedVariables false

section
variable {X : Cx}
/-! ### is True, is False -/
/-! ### isinstance of a built-in type -/
/-- what a value is, by the abstract heap -/
inductive Kn (H : Hp) : V → String → Prop where
  | non : Kn H .non "NoneType"
  | bl (b : Bool) : Kn H (.bl b) "bool"
  | int (i : Int) : Kn H (.int i) "int"
  | str (x : Str) : Kn H (.str x) "str"
  | lst {a : Addr} {xs : List V} (e : H a = some (.lst xs)) : Kn H (.ref a) "list"
  | tup {a : Addr} {xs : List V} (e : H a = some (.tup xs)) : Kn H (.ref a) "tuple"
  | dK {a : Addr} {kvs : List (Key × V)} (e : H a = some (.dK kvs)) : Kn H (.ref a) "dict"
theorem Kn.ty {K : PySem.W.Frag} {H : Hp} {v : V} {T : String} (h : Kn H v T) : TyOf K H v (.type T) := by
  cases h with
  | non => exact .non
  | bl b => exact .bl b
  | int i => exact .int i
  | str x => exact .str x
  | lst e => exact .lst e
  | tup e => exact .tup e
  | dK e => exact .dK e
def subT (T U : String) : Bool := T == U || (T == "bool" && U == "int")
theorem kit_int {K : PySem.W.Frag} {H : Hp} {v : V} {T : String} (h : Kn H v T) : PySem.W.kitOne K (.type T) (.type "int") = some (subT T "int") := by
  cases h <;> rfl
theorem kit_bool {K : PySem.W.Frag} {H : Hp} {v : V} {T : String} (h : Kn H v T) : PySem.W.kitOne K (.type T) (.type "bool") = some (subT T "bool") := by
  cases h <;> rfl
theorem kit_tuple {K : PySem.W.Frag} {H : Hp} {v : V} {T : String} (h : Kn H v T) : PySem.W.kitOne K (.type T) (.type "tuple") = some (subT T "tuple") := by
  cases h <;> rfl
theorem kit_list {K : PySem.W.Frag} {H : Hp} {v : V} {T : String} (h : Kn H v T) : PySem.W.kitOne K (.type T) (.type "list") = some (subT T "list") := by
  cases h <;> rfl
theorem call_isi : CallR X (.builtin "isinstance") (fun xs H Q => ∃ x T U, xs = [x, .ty U] ∧ Kn H x T ∧ (U = "int" ∨ U = "bool" ∨ U = "tuple" ∨ U = "list") ∧ Q (.bl (subT T U)) H) := by
  intro pins s σ H xs us Q I r h
  obtain ⟨x, T, U, rfl, hk, hU, q⟩ := h
  obtain ⟨u, c, rfl, rx, rc⟩ := vals2 r
  cases (show c = Value.type U from rc)
  refine isinst_ok I rx hk.ty (b := subT T U) ?_ fun tk => ⟨.bl (subT T U), H, I.tok tk, rfl, q⟩
  rcases hU with rfl | rfl | rfl | rfl
  · exact kit_int hk
  · exact kit_bool hk
  · exact kit_tuple hk
  · exact kit_list hk

/-! ### all of a list of bools -/
theorem call_allB (hc : X.calm = true) : CallR X (.builtin "all") (fun xs H Q => ∃ (p : Addr) (bs : List Bool), xs = [.ref p] ∧ SqL X.K H p (bs.map V.bl) ∧ Q (.bl (bs.all id)) H) := by
  intro pins s σ H xs us Q I r h
  obtain ⟨p, bs, rfl, hq, q⟩ := h
  obtain ⟨u, rfl, rx⟩ := vals1 r
  cases (show u = Value.ref p from rx)
  obtain ⟨its, r', pl, hz⟩ := I.list hq
  have hsz : its.length = bs.length := by have := r'.length; rw [List.length_map] at this; exact this.symm
  refine call_all_walk (wpAny_pyIter_list pl.isList ?_)
  have hne : p ≠ s.heap.objs.size := by
    obtain ⟨o, ho, _⟩ := pl.isList
    exact Nat.ne_of_lt (Heap.lt_size ho)
  refine ⟨_, _, _, its.toArray.size, _, _, fun i => bs.getD i true, rfl, Walks.list (A := X.A.in1) (show X.A.in1.handled = none from I.ok.hd hc) s.heap.objs.size p hne its.toArray, ⟨⟨_, Heap.get?_push_size _ rfl, rfl, rfl⟩, pl.isList.push _⟩, ?_, ?_⟩
  · intro i v s' Q' E' hP hQ
    have hv : its[i]? = some v := by simpa using hP
    have hi : i < its.length := (List.getElem?_eq_some_iff.mp hv).1
    have hb : (bs.map V.bl)[i]? = some (V.bl (bs.getD i true)) := by
      rw [List.getElem?_map, List.getElem?_eq_getElem (by omega)]
      simp [List.getD_eq_getElem?_getD, List.getElem?_eq_getElem (show i < bs.length by omega)]
    obtain ⟨w', hw, rw'⟩ := r'.get hb
    rw [hv] at hw
    cases hw
    cases (show v = Value.bool _ from rw')
    exact wpAny_truthy_bool hQ
  · intro h' tk hk
    have e : (List.range its.toArray.size).all (fun i => bs.getD i true) = bs.all id := by
      rw [List.size_toArray, hsz]
      rw [Bool.eq_iff_iff, List.all_eq_true, List.all_eq_true]
      constructor
      · intro h1 x hx
        obtain ⟨i, hi, rfl⟩ := List.getElem_of_mem hx
        have := h1 i (List.mem_range.mpr hi)
        rw [List.getD_eq_getElem?_getD, List.getElem?_eq_getElem hi] at this
        exact this
      · intro h1 i hi
        have hi' := List.mem_range.mp hi
        rw [List.getD_eq_getElem?_getD, List.getElem?_eq_getElem hi']
        exact h1 _ (List.getElem_mem hi')
    rw [e]
    refine ⟨.bl (bs.all id), H, I.kept (t' := tk) fun b o eb => hk b o (fun z => ?_) (Heap.get?_push_of_some _ eb), rfl, q⟩
    have : b = s.heap.objs.size := by simpa using z
    exact absurd (Heap.lt_size eb) (by rw [this]; exact Nat.lt_irrefl _)

/-! ### t + u of any tuples -/
def rCatA (K : PySem.W.Frag) : R2 := fun x y H Q => ∃ a b xs ys, x = .ref a ∧ y = .ref b ∧ H a = some (.tup xs) ∧ H b = some (.tup ys) ∧ xs.length + ys.length ≤ sizeLine ∧
  ∀ p H', Same H H' → H' p = some (.tup (xs ++ ys)) → Q (.ref p) H'
theorem same_new {H : Hp} {p : Addr} (h : H p = none) (o : HO) : Same H (upd H p o) := fun b u q => by rw [upd_ne (ne_of_none q h)]; exact q
theorem op_catA : OpR X (binaryOp .Add) (rCatA X.K) := by
  intro pins s σ H x y v u Q I rx ry h
  obtain ⟨a, b, xs, ys, rfl, rfl, ha, hb, hz, q⟩ := h
  cases (show v = Value.ref a from rx)
  cases (show u = Value.ref b from ry)
  obtain ⟨its, r1, t1, z1⟩ := I.tuple (SqT.of ha)
  obtain ⟨jts, r2, t2, z2⟩ := I.tuple (SqT.of hb)
  have l1 := r1.length
  have l2 := r2.length
  by_cases hx : its = []
  · subst hx
    have ex : xs = [] := List.length_eq_zero_iff.mp l1
    subst ex
    obtain ⟨⟨cls, dd, data, sl⟩, ho, hc, n, hd⟩ := id t1
    obtain ⟨⟨cls2, dd2, data2, sl2⟩, ho2, hc2, n2, hd2⟩ := id t2
    simp only at hc hd hc2 hd2
    subst hc hd hc2 hd2
    exact concat_meets ⟨_, ho, rfl⟩ ⟨_, ho2, rfl⟩ noFill_tuple_add seq_tuple_add PySem.F.slot_tuple_add PySem.F.entry_tuple_add (PySem.F.args_tuple_add_2 _ _)
      (tuple_addW0 a b ([] : List Value).toArray jts.toArray n n2 dd dd2 sl sl2 rfl) ⟨ho, ho2, ⟨.ref b, H, I, rfl, q b H (Same.refl H) hb⟩⟩
  · refine HT.cat_tup t1 t2 hx (fun e => ?_) (fun e => ?_) (by omega)
    · subst e
      have ey : ys = [] := List.length_eq_zero_iff.mp l2
      subst ey
      exact ⟨.ref a, H, I, rfl, q a H (Same.refl H) (by rw [List.append_nil]; exact ha)⟩
    · have fr := I.hok.fresh (Nat.le_refl s.heap.objs.size)
      refine ⟨.ref s.heap.objs.size, _, I.laid (t' := s.toks) (o := .tup (xs ++ ys)) (fun b ob q => Heap.get?_push_of_some _ q) (Nat.le_refl _) ?_, rfl, q _ _ (same_new fr _) upd_same⟩
      exact ⟨by rw [List.length_append]; exact hz, _, r1.append r2, IsTup.new _ _⟩

/-! ### t[lo:hi], the whole too -/
end

section
variable {prog : Program} {w : World} {A : Around} {E : Value → Shared → Prop} {s : Shared}
/-- t[k] of a tuple is what the tuple's own code tells -/
theorem tup_at {t : Addr} {items : Array Value} {k : Value} {Q : Value → Shared → Prop} (ht : IsTup s.heap t items)
    (h : wpAny (model prog w) A.in1 (Builtin.«tuple.__getitem__» ⟨[.ref t, k], []⟩) (fun fin s' => ∃ v, fin = .done (.ret v) ∧ Q v s') E s) : wpAny (model prog w) A (getItem (.ref t) k) Q E s := by
  have sl := PyProof.Rows.slot_tuple_getitem
  unfold getItem
  wp_walk using wpAny_sequenceKey ht.typeIs (by decide), wpAny_callSpecial?_slot (name := Str.ofString "__getitem__") ht.typeIs sl (wpAny_call_entry sl ht.typeIs entry_tuple_getitem (wpAny_mono h (fun fin s' ⟨v, e, q⟩ => ⟨v, e, wpAny_pure q⟩) fun _ _ e => e) (args_tuple_getitem _ _))
/-- t[::-1] -/
theorem rev_places (n : Nat) : Builtin.Slice.sliceAdjust none none (-1) (n : Int) = ((n : Int) - 1, -1) ∧ Builtin.Slice.slicePlaces ((n : Int) - 1) (-1) (-1) = n := by
  refine ⟨rfl, ?_⟩
  unfold Builtin.Slice.slicePlaces
  rw [if_neg (by decide)]
  by_cases h : (n : Int) - 1 > -1
  · rw [if_pos h]
    have : ((n : Int) - 1 - -1 - 1) / (- -1) = (n : Int) - 1 := by
      rw [show (- -1 : Int) = 1 by decide, Int.ediv_one]; omega
    rw [this]; omega
  · rw [if_neg h]; omega
theorem fm_congr {α β : Type} {f g : α → Option β} : ∀ {l : List α}, (∀ x ∈ l, f x = g x) → l.filterMap f = l.filterMap g
  | [], _ => rfl
  | x :: r, h => by
    rw [List.filterMap_cons, List.filterMap_cons, h x List.mem_cons_self, fm_congr (l := r) fun y hy => h y (List.mem_cons_of_mem _ hy)]
theorem rev_pick (xs : List Value) : ((List.range xs.length).filterMap fun (m : Nat) => xs.toArray[(((xs.length : Int) - 1) + (m : Int) * (-1)).toNat]?) = xs.reverse := by
  apply List.ext_getElem?
  intro i
  have e : ((List.range xs.length).filterMap fun (m : Nat) => xs.toArray[(((xs.length : Int) - 1) + (m : Int) * (-1)).toNat]?) = (List.range xs.length).filterMap fun (m : Nat) => xs[xs.length - 1 - m]? := by
    apply fm_congr
    intro m hm
    have hm' := List.mem_range.mp hm
    rw [List.getElem?_toArray]
    congr 1
    omega
  rw [e]
  have e2 : ((List.range xs.length).filterMap fun (m : Nat) => xs[xs.length - 1 - m]?) = (List.range xs.length).map fun m => xs.getD (xs.length - 1 - m) Value.none := by
    rw [← List.filterMap_eq_map]
    apply fm_congr
    intro m hm
    have hm' := List.mem_range.mp hm
    show xs[xs.length - 1 - m]? = some (xs.getD (xs.length - 1 - m) Value.none)
    rw [List.getD_eq_getElem?_getD, List.getElem?_eq_getElem (by omega)]
    rfl
  rw [e2, List.getElem?_map]
  by_cases hi : i < xs.length
  · rw [List.getElem?_range hi, List.getElem?_reverse hi]
    show some (xs.getD (xs.length - 1 - i) Value.none) = _
    rw [List.getD_eq_getElem?_getD, List.getElem?_eq_getElem (by omega)]
    rfl
  · rw [List.getElem?_eq_none (by simpa using hi), List.getElem?_eq_none (by simpa using hi)]
    rfl
theorem cut_rev {t sl : Addr} {its : List Value} {tk : Tok} {Q : Value → Shared → Prop} (ht : IsTup s.heap t its.toArray) (hs : s.heap.IsSliceOf sl .none .none (.int (-1) tk))
    (h : Q (.ref s.heap.objs.size) { s with heap := s.heap.push { cls := .type "tuple", data := .seq its.reverse.toArray } }) (hsz : its.length ≤ sizeLine) : wpAny (model prog w) A (getItem (.ref t) (.ref sl)) Q E s := by
  refine tup_at ht ?_
  obtain ⟨hp, g, d, tk0, os⟩ := s
  obtain ⟨⟨c, dc, dt, so⟩, hos, hcs, hds⟩ := id hs
  simp only at hcs hds
  subst hcs hds
  simp only at hos
  have fits : sizeOk (.seq its.reverse.toArray) := by
    show its.reverse.toArray.size ≤ sizeLine
    rw [List.size_toArray, List.length_reverse]; exact hsz
  have f1 : typeLookup (.type "int") (Str.ofString "__index__") = pure (some (.builtin "int.__index__")) := PySem.F.slot_int_index.lookup
  have all : (List.range (Builtin.Slice.slicePlaces (Builtin.Slice.sliceAdjust none none ((some (-1)).getD 1) its.toArray.size).1 (Builtin.Slice.sliceAdjust none none ((some (-1)).getD 1) its.toArray.size).2 ((some (-1)).getD 1))).filterMap
      (fun (k : Nat) => its.toArray[((Builtin.Slice.sliceAdjust none none ((some (-1)).getD 1) its.toArray.size).1 + (k : Int) * (some (-1)).getD 1).toNat]?) = its.reverse := by
    show (List.range (Builtin.Slice.slicePlaces ((its.toArray.size : Int) - 1) (-1) (-1))).filterMap (fun (k : Nat) => its.toArray[((its.toArray.size : Int) - 1 + (k : Int) * (-1)).toNat]?) = _
    rw [(rev_places _).2, List.size_toArray]
    exact rev_pick its
  wp_walk using tupleItemsOf_ ht
  rw [all, if_neg (Nat.not_lt.mpr fits)]
  wp_walk
  exact ⟨_, rfl, h⟩
end

section
variable {X : Cx}
def tRev (te : TE) : TE := fun σ H Q => te σ H fun x H1 => ∃ a xs, x = .ref a ∧ H1 a = some (.tup xs) ∧ ∀ p, H1 p = none → Q (.ref p) (upd H1 p (.tup xs.reverse))
theorem pe_rev {e : Expr} {te : TE} {k : Nat} {p1 p2 p3 pos : Pos} (he : PE X e te) : PE X (.Subscript e (.Slice none none (some (.UnaryOp .USub (.Constant (.int 1) k p1) p2)) p3) pos) (tRev te) := by
  intro pins s σ H Q I h
  refine Subscript_ (thn (he pins s σ H _ I h) fun v s1 ⟨x, H1, I1, r1, q1⟩ => ?_)
  obtain ⟨a, xs, rfl, hx, q⟩ := q1
  cases (show v = Value.ref a from r1)
  refine wpAny_Slice ?_
  rw [evalPart_none]
  refine wpAny_pure (wpAny_pure ?_)
  rw [evalPart_some]
  refine thn (pe_un un_neg pe_int pins s1 σ H1 (fun w H2 => H2 = H1 ∧ w = .int (-1)) I1 ⟨1, rfl, rfl, rfl⟩) fun u s2 ⟨y, H2, I2, r2, e2, e3⟩ => ?_
  subst e2 e3
  obtain ⟨tk, rfl⟩ := (show ∃ t, u = Value.int (-1) t from r2)
  have I3 : Inv X pins σ H2 { s2 with heap := s2.heap.push { cls := .type "slice", data := .fields #[.none, .none, .int (-1) tk] } } := I2.kept (t' := s2.toks) fun b ob q => Heap.get?_push_of_some _ q
  obtain ⟨its, r, ht, hz⟩ := I3.tuple (SqT.of hx)
  have hlen := r.length
  refine tail_any (ops := [.ref a, .ref s2.heap.objs.size]) ht.typeIs PyProof.Rows.slot_tuple_getitem.lookup (cut_rev ht (Heap.IsSliceOf.new ..) ?_ (by omega)) (by with_unfolding_all rfl)
  refine ⟨.ref _, _, I3.laid (t' := s2.toks) (o := .tup xs.reverse) (fun b ob q => Heap.get?_push_of_some _ q) (Nat.le_refl _) ?_, rfl, q _ (I3.hok.fresh (Nat.le_refl _))⟩
  exact ⟨by rw [List.length_reverse]; exact hz, _, r.reverse, IsTup.new _ _⟩
end
end L2
end
section
/-! zip(a, b) of two lists or two tuples, walked by a loop or a comprehension with a pair as its target.
The built-ins' own code is walked by `wp_walk`; what is said here is what the heap holds behind it. -/
namespace L2
open PySem PySem.Spec PyProof.Rows
set_option maxHeartbeats 4000000
set_option maxRecDepth 100000
set_option Elab.async false
set_option linter.unusedVariables false

/-- an iterator that zip asks, and what it stands upon -/
structure Nx (P : Program) (w : World) (i l : Addr) (pl : Nat → Heap → Prop) (vs : Array Value) : Prop where
  ne : l ≠ i
  there : ∀ k h, pl k h → (∃ o, h.get? i = some o ∧ (∃ c, o.cls = .type c ∧ (c = "list_iterator" ∨ c = "tuple_iterator")) ∧ ∃ f, o.data = .fields f) ∧ ∃ o, h.get? l = some o ∧ (o.cls = .type "list" ∨ o.cls = .type "tuple")
  keep : ∀ k h h', pl k h → (∀ o, h.get? i = some o → h'.get? i = some o) → (∀ o, h.get? l = some o → h'.get? l = some o) → pl k h'
  item : ∀ (A : Around) k (s : Shared) (Q : Value → Shared → Prop) (E : Value → Shared → Prop) x, pl k s.heap → vs[k]? = some x → (∀ h', pl (k + 1) h' → Heap.SameBut i s.heap h' → Q x { s with heap := h' }) →
    wpAny (model P w) A (Builtin.SmallTypes.nextOf (.ref i)) Q E s
  done : ∀ (A : Around) k (s : Shared) (Q : Value → Shared → Prop) (E : Value → Shared → Prop), A.handled = none → pl k s.heap → vs[k]? = none →
    (∀ h' e, Heap.ExtBut i s.heap h' → (∃ o, h'.get? e = some o ∧ o.cls = .type "StopIteration") → E (.ref e) { s with heap := h' }) → wpAny (model P w) A (Builtin.SmallTypes.nextOf (.ref i)) Q E s

theorem nx_list {P : Program} {w : World} {i l : Addr} (vs : Array Value) (hne : l ≠ i) : Nx P w i l (fun k h => h.IsListIter i l k ∧ h.IsList l vs) vs where
  ne := hne
  there := fun k h ⟨⟨o, e, c, d⟩, ⟨o', e', c', _⟩⟩ => ⟨⟨o, e, ⟨_, c, .inl rfl⟩, _, d⟩, o', e', .inl c'⟩
  keep := fun k h h' ⟨a, b⟩ e1 e2 => ⟨a.at e1, b.at e2⟩
  item := fun A k s Q E x ⟨a, b⟩ hx q => wpAny_nextOf_list_item a b hx fun h' a' sb => q h' ⟨a', b.extBut sb.extBut hne⟩ sb
  done := fun A k s Q E hh ⟨a, b⟩ hx q => wpAny_nextOf_list_end hh a b hx q

/-! ### a tuple's iterator -/
/-- one more item: the code walked -/
theorem tn_item (it t : Addr) (i : Nat) (dc : Option Addr) (sl : Array (Option Value)) (items : Array Value) (x : Value) (hx : items[i]? = some x) :
    Meets (Builtin.«tuple_iterator.__next__» ⟨[.ref it], []⟩) (fun _ R s => s.heap.get? it = some ⟨.type "tuple_iterator", dc, .fields #[.ref t, .int i 0], sl⟩ ∧ s.heap.IsTuple t items ∧
      ∀ h', h'.IsTupleIter it t (i + 1) → Heap.SameBut it s.heap h' → R (.ok (.ret x)) { s with heap := h' }) :=
  .of_wp fun prog w A R s h => by
    obtain ⟨hp, g, d, tk, os⟩ := s
    obtain ⟨h1, ⟨⟨c, dc2, dt, sl2⟩, h2, hc, n, hd⟩, h⟩ := h
    simp only at hc hd
    subst hc hd
    simp only at h1 h2
    wp_walk
    rw [Int.toNat_natCast, hx]
    wp_walk
    exact ⟨_, rfl, h _ ⟨_, Heap.get?_update_self _ h1 rfl, rfl, rfl⟩ (.update ..)⟩
/-- no more items -/
theorem tn_end (it t : Addr) (i : Nat) (dc : Option Addr) (sl : Array (Option Value)) (items : Array Value) (hx : items[i]? = none) :
    Meets (Builtin.«tuple_iterator.__next__» ⟨[.ref it], []⟩) (fun A R s => A.handled = none ∧ s.heap.get? it = some ⟨.type "tuple_iterator", dc, .fields #[.ref t, .int i 0], sl⟩ ∧ s.heap.IsTuple t items ∧
      ∀ h' e, Heap.ExtBut it s.heap h' → (∃ o, h'.get? e = some o ∧ o.cls = .type "StopIteration") → R (.error (.ref e)) { s with heap := h' }) :=
  .of_wp fun prog w A R s h => by
    obtain ⟨hp, g, d, tk, os⟩ := s
    obtain ⟨hh, h1, ⟨⟨c, dc2, dt, sl2⟩, h2, hc, n, hd⟩, h⟩ := h
    simp only at hc hd
    subst hc hd
    simp only at h1 h2
    wp_walk
    rw [Int.toNat_natCast, hx]
    wp_walk
    exact wpAny_raiseNew_none hh (h _ _ (fun b o n e => by repeat (first | exact Heap.get?_update_of_ne _ (Ne.symm n) e | refine Heap.get?_push_of_some _ ?_)) ⟨_, Heap.get?_push_size _ rfl, rfl⟩)
theorem nx_tup {P : Program} {w : World} {i l : Addr} (vs : Array Value) (hne : l ≠ i) : Nx P w i l (fun k h => h.IsTupleIter i l k ∧ h.IsTuple l vs) vs where
  ne := hne
  there := fun k h ⟨⟨o, e, c, d⟩, ⟨o', e', c', _⟩⟩ => ⟨⟨o, e, ⟨_, c, .inr rfl⟩, _, d⟩, o', e', .inr c'⟩
  keep := fun k h h' ⟨a, b⟩ e1 e2 => ⟨a.at e1, b.at e2⟩
  item := fun A k s Q E x ⟨a, b⟩ hx q => by
    obtain ⟨⟨c, dc, dt, sl⟩, e, hc, hd⟩ := a
    simp only at hc hd
    subst hc hd
    have hT : s.TypeIs (.ref i) "tuple_iterator" := ⟨_, e, rfl⟩
    exact wpAny_bind (wpAny_callSpecial?_slot (name := Str.ofString "__next__") hT F.slot_tuple_iterator_next (call_meets F.slot_tuple_iterator_next hT F.entry_tuple_iterator_next (F.args_tuple_iterator_next_1 _)
      (tn_item i l k dc sl vs x hx) ⟨e, b, fun h' a' sb => wpAny_pure (q h' ⟨a', b.extBut sb.extBut hne⟩ sb)⟩))
  done := fun A k s Q E hh ⟨a, b⟩ hx q => by
    obtain ⟨⟨c, dc, dt, sl⟩, e, hc, hd⟩ := a
    simp only at hc hd
    subst hc hd
    have hT : s.TypeIs (.ref i) "tuple_iterator" := ⟨_, e, rfl⟩
    exact wpAny_bind (wpAny_callSpecial?_slot (name := Str.ofString "__next__") hT F.slot_tuple_iterator_next (call_meets F.slot_tuple_iterator_next hT F.entry_tuple_iterator_next (F.args_tuple_iterator_next_1 _)
      (tn_end i l k dc sl vs hx) ⟨hh, e, b, q⟩))

/-! ### a turn of zip -/
section
variable {P : Program} {w : World} {A : Around} {E : Value → Shared → Prop} {s : Shared} {z TI TO i j l m : Addr} {p1 p2 : Nat → Heap → Prop} {xs ys : Array Value} {k : Nat}
theorem zip_item {x y a b : Value} {Q : Option Value → Shared → Prop} (nd : [z, TI, TO, i, j].Nodup) (c1 : l ∉ [z, TI, TO, i, j]) (c2 : m ∉ [z, TI, TO, i, j]) (N1 : Nx P w i l p1 xs) (N2 : Nx P w j m p2 ys)
    (hz : IsZip s.heap z TI TO .none) (hTI : IsPair s.heap TI (.ref i) (.ref j)) (hTO : IsPair s.heap TO a b) (q1 : p1 k s.heap) (q2 : p2 k s.heap) (hx : xs[k]? = some x) (hy : ys[k]? = some y)
    (hQ : ∀ h', IsZip h' z TI TO (rawInt s.heap.objs.size) → IsPair h' TO x y → p1 (k + 1) h' → p2 (k + 1) h' → IsPair h' s.heap.objs.size x y → h'.objs.size = s.heap.objs.size + 1 →
      (∀ c o, c ≠ z → c ≠ TO → c ≠ i → c ≠ j → s.heap.get? c = some o → h'.get? c = some o) → Q (some (.ref s.heap.objs.size)) { s with heap := h' }) :
    wpAny (model P w) A (pyNext (.ref z)) Q E s := by
  simp only [List.nodup_cons, List.mem_cons, List.not_mem_nil, or_false, not_or, not_false_eq_true, and_true, List.nodup_nil] at nd c1 c2
  have hT : s.TypeIs (.ref z) "zip" := ⟨_, hz, rfl⟩
  unfold pyNext
  refine wpAny_bind (wpAny_attempt (wpAny_callSpecial?_slot (name := Str.ofString "__next__") hT F.slot_zip_next (wpAny_call_entry F.slot_zip_next hT F.entry_zip_next ?_ (F.args_zip_next_1 _))))
  obtain ⟨hp, g, d, tk, os⟩ := s
  wp_walk using wpAny_onRaise, N1.item _ k _ _ _ x
  · exact N1.keep _ _ _ q1 (fun o e => Heap.get?_update_of_ne _ nd.1.2.2.1 e) fun o e => Heap.get?_update_of_ne _ (Ne.symm c1.1) e
  · exact hx
  intro g2 r2 s2
  have t2 : IsPair g2 TO a b := s2.extBut _ _ nd.2.2.1.1 (Heap.get?_update_of_ne _ nd.1.2.1 hTO)
  wp_walk using wpAny_onRaise, N2.item _ k _ _ _ y
  · exact N2.keep _ _ _ q2 (fun o e => Heap.get?_update_of_ne _ nd.2.2.1.2 (s2.extBut _ _ (Ne.symm nd.2.2.2) (Heap.get?_update_of_ne _ nd.1.2.2.2 e)))
      fun o e => Heap.get?_update_of_ne _ (Ne.symm c2.2.2.1) (s2.extBut _ _ c2.2.2.2.1 (Heap.get?_update_of_ne _ (Ne.symm c2.1) e))
  · exact hy
  intro g4 r4 s4
  have t4 := s4.extBut _ _ nd.2.2.1.2 (Heap.get?_update_self (Obj.mapSeq fun q => q.setIfInBounds 0 x) t2 rfl)
  have nz : TO ≠ z := Ne.symm nd.1.2.1
  have z4 := s4.extBut _ _ nd.1.2.2.2 (Heap.get?_update_of_ne (Obj.mapSeq fun q => q.setIfInBounds 0 x) nz (s2.extBut _ _ nd.1.2.2.1 (Heap.get?_update_self (Obj.mapFields fun q => q.setIfInBounds 0 Value.ellipsis) hz rfl)))
  wp_walk
  refine ⟨_, rfl, wpAny_pure ?_⟩
  have sz : (g4.update TO (Obj.mapSeq fun q => q.setIfInBounds (0 + 1) y)).objs.size = hp.objs.size := by
    rw [Heap.size_after_update, s4.1]
    show (g2.update TO _).objs.size = _
    rw [Heap.size_after_update, s2.1]
    exact Heap.size_after_update ..
  rw [sz]
  have zl : z < hp.objs.size := Heap.lt_size hz
  have last : ∀ {G : Heap} {c : Addr} {o : Obj} {f1 f2 : Obj → Obj}, c ≠ z → G.get? c = some o → ((G.update z f1).update z f2).get? c = some o := fun n e => Heap.get?_update_of_ne _ (Ne.symm n) (Heap.get?_update_of_ne _ (Ne.symm n) e)
  have mid : ∀ {c : Addr} {o : Obj} {T : Obj}, c ≠ TO → g4.get? c = some o → ((g4.update TO (Obj.mapSeq fun q => q.setIfInBounds (0 + 1) y)).push T).get? c = some o := fun n e => Heap.get?_push_of_some _ (Heap.get?_update_of_ne _ (Ne.symm n) e)
  refine hQ _ (Heap.get?_update_self _ (Heap.get?_update_self _ (mid (Ne.symm nz) z4) rfl) rfl) (last nz (Heap.get?_push_of_some _ (Heap.get?_update_self _ t4 rfl)))
    (N1.keep _ _ _ r2 (fun o e => last (Ne.symm nd.1.2.2.1) (mid (Ne.symm nd.2.2.1.1) (s4.extBut _ _ nd.2.2.2 (Heap.get?_update_of_ne _ nd.2.2.1.1 e))))
      fun o e => last c1.1 (mid c1.2.2.1 (s4.extBut _ _ c1.2.2.2.2 (Heap.get?_update_of_ne _ (Ne.symm c1.2.2.1) e))))
    (N2.keep _ _ _ r4 (fun o e => last (Ne.symm nd.1.2.2.2) (mid (Ne.symm nd.2.2.1.2) e)) fun o e => last c2.1 (mid c2.2.2.1 e))
    (last (Nat.ne_of_gt zl) (Heap.get?_push_at sz.symm rfl)) ?_ fun c o n1 n2 n3 n4 e => last n1 (mid n2 (s4.extBut _ _ n4 (Heap.get?_update_of_ne _ (Ne.symm n2) (s2.extBut _ _ n3 (Heap.get?_update_of_ne _ (Ne.symm n1) e)))))
  rw [Heap.size_after_update, Heap.size_after_update, Heap.size_push, sz]
theorem zip_done {a b : Value} {Q : Option Value → Shared → Prop} (hh : A.handled = none) (nd : [z, TI, TO, i, j].Nodup) (c1 : l ∉ [z, TI, TO, i, j]) (c2 : m ∉ [z, TI, TO, i, j]) (N1 : Nx P w i l p1 xs) (N2 : Nx P w j m p2 ys)
    (hz : IsZip s.heap z TI TO .none) (hTI : IsPair s.heap TI (.ref i) (.ref j)) (hTO : IsPair s.heap TO a b) (q1 : p1 k s.heap) (q2 : p2 k s.heap) (hend : xs[k]? = none ∨ ys[k]? = none)
    (hQ : ∀ h', (∀ c o, c ≠ z → c ≠ TO → c ≠ i → c ≠ j → s.heap.get? c = some o → h'.get? c = some o) → Q none { s with heap := h' }) : wpAny (model P w) A (pyNext (.ref z)) Q E s := by
  simp only [List.nodup_cons, List.mem_cons, List.not_mem_nil, or_false, not_or, not_false_eq_true, and_true, List.nodup_nil] at nd c1 c2
  have hT : s.TypeIs (.ref z) "zip" := ⟨_, hz, rfl⟩
  have stop : ∀ (G : Heap) (e : Addr) (o : Obj), G.get? z = some ⟨.type "zip", none, .fields #[.ellipsis, .bool false, .bool false, .ref TI, .ref TO], #[]⟩ → G.get? e = some o → o.cls = .type "StopIteration" →
      (∀ c o, c ≠ z → c ≠ TO → c ≠ i → c ≠ j → s.heap.get? c = some o → G.get? c = some o) →
      wpAny (model P w) A.in1 (setField (.ref z) 0 .none) (fun _ s'' => wpAny (model P w) A (do if (← isInstance (.ref e) (.type "StopIteration")) = true then pure none else throw (.ref e)) Q E s'') (fun e' s'' => wpAny (model P w) A (do if (← isInstance e' (.type "StopIteration")) = true then pure none else throw e') Q E s'') { s with heap := G } := fun G e o g1 g2 hc kp => by
    have ne : z ≠ e := fun q => by subst q; rw [g1] at g2; cases g2; exact absurd (show Value.type "zip" = Value.type "StopIteration" from hc) (by decide)
    have g3 := Heap.get?_update_of_ne (Obj.mapFields fun q => q.setIfInBounds 0 Value.none) ne g2
    obtain ⟨hp, gs, d, tk, os⟩ := s
    have ht : Shared.TypeIs ⟨G.update z (Obj.mapFields fun q => q.setIfInBounds 0 Value.none), gs, d, tk, os⟩ (.ref e) "StopIteration" := ⟨o, g3, hc⟩
    have sub := isSubtype_stop
    wp_walk
    exact hQ _ fun c o n1 n2 n3 n4 q => Heap.get?_update_of_ne _ (Ne.symm n1) (kp c o n1 n2 n3 n4 q)
  unfold pyNext
  refine wpAny_bind (wpAny_attempt (wpAny_callSpecial?_slot (name := Str.ofString "__next__") hT F.slot_zip_next (wpAny_call_entry F.slot_zip_next hT F.entry_zip_next ?_ (F.args_zip_next_1 _))))
  have z1 := Heap.get?_update_self (Obj.mapFields fun q => q.setIfInBounds 0 Value.ellipsis) hz rfl
  obtain ⟨hp, g, d, tk, os⟩ := s
  have f1 : p1 k (hp.update z (Obj.mapFields fun q => q.setIfInBounds 0 Value.ellipsis)) := N1.keep _ _ _ q1 (fun o e => Heap.get?_update_of_ne _ nd.1.2.2.1 e) fun o e => Heap.get?_update_of_ne _ (Ne.symm c1.1) e
  cases hx : xs[k]? with
  | none =>
    wp_walk using wpAny_onRaise, N1.done _ k
    · exact hh
    · exact f1
    · exact hx
    intro g2 e s2 he
    obtain ⟨o, ho, hc⟩ := he
    exact stop g2 e o (s2 _ _ nd.1.2.2.1 z1) ho hc fun c o n1 n2 n3 n4 q => s2 _ _ n3 (Heap.get?_update_of_ne _ (Ne.symm n1) q)
  | some x =>
    have hy : ys[k]? = none := hend.resolve_left (by rw [hx]; exact nofun)
    wp_walk using wpAny_onRaise, N1.item _ k _ _ _ x
    · exact f1
    · exact hx
    intro g2 r2 s2
    have t2 : IsPair g2 TO a b := s2.extBut _ _ nd.2.2.1.1 (Heap.get?_update_of_ne _ nd.1.2.1 hTO)
    wp_walk using wpAny_onRaise, N2.done _ k
    · exact hh
    · exact N2.keep _ _ _ q2 (fun o e => Heap.get?_update_of_ne _ nd.2.2.1.2 (s2.extBut _ _ (Ne.symm nd.2.2.2) (Heap.get?_update_of_ne _ nd.1.2.2.2 e)))
        fun o e => Heap.get?_update_of_ne _ (Ne.symm c2.2.2.1) (s2.extBut _ _ c2.2.2.2.1 (Heap.get?_update_of_ne _ (Ne.symm c2.1) e))
    · exact hy
    intro g4 e s4 he
    obtain ⟨o, ho, hc⟩ := he
    exact stop g4 e o (s4 _ _ nd.1.2.2.2 (Heap.get?_update_of_ne _ (Ne.symm nd.1.2.1) (s2.extBut _ _ nd.1.2.2.1 z1))) ho hc
      fun c o n1 n2 n3 n4 q => s4 _ _ n4 (Heap.get?_update_of_ne _ (Ne.symm n2) (s2.extBut _ _ n3 (Heap.get?_update_of_ne _ (Ne.symm n1) q)))
end
end L2
end
section
/-! zip walked; ranges as lists and tuples; the empty dict. -/
namespace L2
open PySem PySem.Spec PyProof.Rows
set_option maxHeartbeats 4000000
set_option maxRecDepth 100000
set_option Elab.async false
set_option linter.unusedVariables false

/-! ### ranges -/
section
variable {prog : Program} {w : World} {A : Around} {E : Value → Shared → Prop} {s : Shared} {r : Addr} {a b c : Int} {t u v : Tok} {n : Nat}
end
section
variable {X : Cx}
/-! ### {} -/
end
end L2
end
section
/-! zip(a, b) of two tuples or two lists, walked with a pair as target. -/
namespace L2
open PySem PySem.Spec PyProof.Rows
set_option maxHeartbeats 4000000
set_option maxRecDepth 100000
set_option Elab.async false
set_option linter.unusedVariables false

/-- kinds: true a tuple, false a list -/
def ItAt (t : Bool) (i l : Addr) (k : Nat) (h : Heap) : Prop := match t with
  | true => h.IsTupleIter i l k
  | false => h.IsListIter i l k
def SqK (t : Bool) (K : PySem.W.Frag) (H : Hp) (l : Addr) (xs : List V) : Prop := match t with
  | true => SqT K H l xs
  | false => SqL K H l xs
theorem ItAt.at {t : Bool} {i l : Addr} {k : Nat} {h h' : Heap} (x : ItAt t i l k h) (e : ∀ o, h.get? i = some o → h'.get? i = some o) : ItAt t i l k h' := by
  cases t
  · exact Heap.IsListIter.at x e
  · exact Heap.IsTupleIter.at x e
theorem ItAt.obj {t : Bool} {i l : Addr} {k : Nat} {h : Heap} (x : ItAt t i l k h) : ∃ o f c, h.get? i = some o ∧ o.data = .fields f ∧ o.cls = .type c ∧ (c = "list_iterator" ∨ c = "tuple_iterator") := by
  cases t
  · obtain ⟨o, e, c, d⟩ := (show h.IsListIter i l k from x)
    exact ⟨o, _, _, e, d, c, .inl rfl⟩
  · obtain ⟨o, e, c, d⟩ := (show h.IsTupleIter i l k from x)
    exact ⟨o, _, _, e, d, c, .inr rfl⟩
section
variable {X : Cx} {pins : List (Addr × Obj)} {σ : St} {H : Hp} {s : Shared}
theorem Inv.sqk {t : Bool} {l : Addr} {xs : List V} (I : Inv X pins σ H s) (h : SqK t X.K H l xs) : ∃ its : List Value, Vals xs its ∧ (∃ o, s.heap.get? l = some o ∧ (o.cls = .type "list" ∨ o.cls = .type "tuple")) ∧
    ∀ (i : Addr), l ≠ i → ∃ pl : Nat → Heap → Prop, Nx X.prog X.w i l pl its.toArray ∧ (∀ k, ItAt t i l k s.heap → pl k s.heap) ∧ (∀ k h', pl k h' → ItAt t i l k h') := by
  cases t
  · obtain ⟨its, r, p, hz⟩ := I.list (show SqL X.K H l xs from h)
    obtain ⟨o, ho, hc, n, hd⟩ := id p.isList
    exact ⟨its, r, ⟨o, ho, .inl hc⟩, fun i ne => ⟨_, nx_list its.toArray ne, fun k z => ⟨z, p.isList⟩, fun k h' z => z.1⟩⟩
  · obtain ⟨its, r, p, hz⟩ := I.tuple (show SqT X.K H l xs from h)
    obtain ⟨o, ho, hc, n, hd⟩ := id p
    exact ⟨its, r, ⟨o, ho, .inr hc⟩, fun i ne => ⟨_, nx_tup its.toArray ne, fun k z => ⟨z, p⟩, fun k h' z => z.1⟩⟩
theorem Inv.sqk_inj {t : Bool} {l : Addr} {xs ys : List V} (I : Inv X pins σ H s) (h : SqK t X.K H l xs) (h' : SqK t X.K H l ys) : xs = ys := by
  cases t
  · exact I.list_inj h h'
  · exact I.tuple_inj h h'
end

/-- the pairs of two sequences -/
def Itz (t : Bool) (K : PySem.W.Frag) (l m : Addr) : It where
  go := fun i H => ∃ xs ys x y, SqK t K H l xs ∧ SqK t K H m ys ∧ xs[i]? = some x ∧ ys[i]? = some y
  yld := fun i H v H' => ∃ p x y, v = .ref p ∧ H p = none ∧ H' = upd H p (.tup [x, y]) ∧ (∀ xs, SqK t K H l xs → xs[i]? = some x) ∧ ∀ ys, SqK t K H m ys → ys[i]? = some y
  stop := fun i H => ∃ xs ys, SqK t K H l xs ∧ SqK t K H m ys ∧ (xs[i]? = none ∨ ys[i]? = none)

theorem turn_zip {P : Program} {w : World} {K : PySem.W.Frag} {es : List Expr} {k0 : Nat} {pos : Pos} {t : Bool} {z TI TO i j l m : Addr} (a1 : TI ≠ z) (a2 : TO ≠ z) (a3 : i ≠ z) (a4 : j ≠ z) (a5 : TI ≠ TO) (a6 : TI ≠ i) (a7 : TI ≠ j) (a8 : TO ≠ i) (a9 : TO ≠ j) (b1 : i ≠ j)
    (c1 : l ∉ [z, TI, TO, i, j]) (c2 : m ∉ [z, TI, TO, i, j]) :
    Turn P w K (.Tuple es k0 pos) (Itz t K l m) [z, TI, TO, i, j] z (fun k h => IsZip h z TI TO .none ∧ IsPair h TI (.ref i) (.ref j) ∧ (∃ a b, IsPair h TO a b) ∧ ItAt t i l k h ∧ ItAt t j m k h) where
  mem := by simp
  obj := fun k h ⟨hz, h1, ⟨a, b, h2⟩, h3, h4⟩ c hc => by
    obtain ⟨o1, f1, _, e1, d1, _⟩ := h3.obj
    obtain ⟨o2, f2, _, e2, d2, _⟩ := h4.obj
    simp only [List.mem_cons, List.not_mem_nil, or_false] at hc
    rcases hc with rfl | rfl | rfl | rfl | rfl
    · exact ⟨_, hz, fun v q => by cases q⟩
    · exact ⟨_, h1, fun v q => by cases q⟩
    · exact ⟨_, h2, fun v q => by cases q⟩
    · exact ⟨_, e1, fun v q => by rw [d1] at q; cases q⟩
    · exact ⟨_, e2, fun v q => by rw [d2] at q; cases q⟩
  keep := fun k h h' ⟨hz, h1, ⟨a, b, h2⟩, h3, h4⟩ kp => ⟨kp z (by simp) _ hz, kp TI (by simp) _ h1, ⟨a, b, kp TO (by simp) _ h2⟩, h3.at fun o e => kp i (by simp) o e, h4.at fun o e => kp j (by simp) o e⟩
  item := by
    intro X hP hw hK hc k pins s σ H E I hf st hg
    subst hP hw hK
    obtain ⟨xs, ys, x, y, hl, hm, hx, hy⟩ := hg
    obtain ⟨hz, h1, ⟨a, b, h2⟩, h3, h4⟩ := st
    have cl := c1
    have cm := c2
    simp only [List.mem_cons, List.not_mem_nil, or_false, not_or] at c1 c2
    obtain ⟨its, r1, _, n1⟩ := I.sqk hl
    obtain ⟨jts, r2, _, n2⟩ := I.sqk hm
    obtain ⟨p1, N1, u1, v1⟩ := n1 i c1.2.2.2.1
    obtain ⟨p2, N2, u2, v2⟩ := n2 j c2.2.2.2.2
    obtain ⟨u, hu, ru⟩ := r1.get hx
    obtain ⟨u', hu', ru'⟩ := r2.get hy
    have D : [z, TI, TO, i, j].Nodup := by simp [a1, a2, a3, a4, a5, a6, a7, a8, a9, b1, Ne.symm a1, Ne.symm a2, Ne.symm a3, Ne.symm a4]
    refine zip_item D cl cm N1 N2 hz h1 h2 (u1 k h3) (u2 k h4) (x := u) (y := u') (by simpa using hu) (by simpa using hu') fun h' z1 z2 z3 z4 z5 z6 kp => ?_
    refine ⟨_, rfl, wpAny_letOwnedTupleGo_zip z1 fun h'' y1 sb => ?_⟩
    have fz : H s.heap.objs.size = none := I.hok.fresh (Nat.le_refl _)
    have zlt : z < s.heap.objs.size := Heap.lt_size hz
    have mine : ∀ c ∈ [z, TI, TO, i, j], c ≠ s.heap.objs.size := fun c hc' => by
      obtain ⟨o1, f1, _, e1, d1, _⟩ := h3.obj
      obtain ⟨o2, f2, _, e2, d2, _⟩ := h4.obj
      simp only [List.mem_cons, List.not_mem_nil, or_false] at hc'
      rcases hc' with rfl | rfl | rfl | rfl | rfl
      · exact Nat.ne_of_lt (Heap.lt_size hz)
      · exact Nat.ne_of_lt (Heap.lt_size h1)
      · exact Nat.ne_of_lt (Heap.lt_size h2)
      · exact Nat.ne_of_lt (Heap.lt_size e1)
      · exact Nat.ne_of_lt (Heap.lt_size e2)
    have kp2 : ∀ c o, c ∉ [z, TI, TO, i, j] → s.heap.get? c = some o → h''.get? c = some o := fun c o hc' e => by
      simp only [List.mem_cons, List.not_mem_nil, or_false, not_or] at hc'
      exact sb.extBut _ _ hc'.1 (kp c o hc'.1 hc'.2.2.1 hc'.2.2.2.1 hc'.2.2.2.2 e)
    have tp : h''.get? s.heap.objs.size = some { cls := .type "tuple", data := .seq #[u, u'] } := sb.extBut _ _ (mine z (by simp)).symm z5
    have notH : ∀ c ∈ [z, TI, TO, i, j], H c = none := fun c hc' => (hf c hc').1
    have I1 : Inv X pins σ (upd H s.heap.objs.size (.tup [x, y])) { s with heap := h'' } := by
      have un : Un X.fs [z, TI, TO, i, j] H (upd H s.heap.objs.size (.tup [x, y])) s.heap h'' :=
        ⟨fun c o e n nf hx => kp2 c o hx e, fun c o e n nf hx => ⟨o.slots, kp2 c o hx e⟩, fun c o e n hx => by rw [upd_ne (Nat.ne_of_lt (Heap.lt_size e))]; exact n,
          fun c o e hx => ⟨o, kp2 c o hx e⟩, fun c xs e => by rw [upd_ne (ne_of_none e fz)]; exact e, fun c o xs e => by rw [upd_ne (ne_of_none e fz)]; exact e, fun c ps e => ⟨#[], by rw [upd_ne (ne_of_none e fz), e]; simp⟩⟩
      have hok : HOk X.prog X.w (upd H s.heap.objs.size (.tup [x, y])) h'' := fun c o e => by
        by_cases hcs : c = s.heap.objs.size
        · subst hcs
          rw [upd_same] at e
          cases e
          exact ⟨by show 2 ≤ sizeLine; decide, [u, u'], .cons ru (.cons ru' .nil), ⟨_, tp, rfl, _, rfl⟩⟩
        · rw [upd_ne hcs] at e
          refine (I.hok c o e).stay (fun d w' hd q => kp2 d w' (fun zz => ?_) q) (fun d q => ?_) fun d w' q => ?_
          · have hn := notH d zz
            rcases hd with rfl | hd
            · rw [hn] at e; cases e
            · rw [hn] at hd; cases hd
          · rw [upd_ne (ne_of_none q fz)]; exact q
          · rw [upd_ne (ne_of_none q fz)]; exact q
      have hch : ∀ b ∈ [z, TI, TO, i, j], (b ∈ X.ex ∨ X.s₀.heap.objs.size ≤ b) ∧ b ≠ X.env.locals ∧ (∀ x c, X.env.cells.lookup x = some c → c ≠ b) ∧ ∀ p ∈ X.pn ++ pins, p.1 ≠ b := fun b hb => ⟨(hf b hb).2.2.2.1, (hf b hb).2.1, (hf b hb).2.2.2.2.1, (hf b hb).2.2.2.2.2⟩
      refine I.step (g' := s.gens) (d' := s.drawn) (t' := s.toks) (ch := [z, TI, TO, i, j]) hch (fun c o _ _ hc' e _ => kp2 c o hc' e) (fun c o _ _ hc' e _ => ⟨o.slots, kp2 c o hc' e⟩) (fun c o hc' e n => un.free c o e n hc') (fun c o hc' e => un.there c o e hc') un.tups un.frzs un.tbls (fun m' hm' => ?_) hok I.bare
      obtain ⟨o, es', ep, ho, r⟩ := hm'
      exact ⟨o, es', ep, kp2 _ o (fun zz => (hf _ zz).2.1 rfl) ho, r⟩
    refine ⟨.ref s.heap.objs.size, _, I1, rfl, ⟨s.heap.objs.size, x, y, rfl, fz, rfl, fun xs' q => by rw [I.sqk_inj q hl]; exact hx, fun ys' q => by rw [I.sqk_inj q hm]; exact hy⟩, ?_, fun c hc' => ?_⟩
    · have up : ∀ c o, c ≠ z → h'.get? c = some o → h''.get? c = some o := fun c o hc' e => sb.extBut _ _ hc' e
      exact ⟨y1, up _ _ a1 (kp _ _ a1 a5 a6 a7 h1), ⟨_, _, up _ _ a2 z2⟩, (v1 _ _ z3).at fun o e => up _ o a3 e, (v2 _ _ z4).at fun o e => up _ o a4 e⟩
    · rw [upd_ne (mine c hc')]
      exact notH c hc'
  done := by
    intro X hP hw hK hc k pins s σ H E I hf st hg
    subst hP hw hK
    obtain ⟨xs, ys, hl, hm, hend⟩ := hg
    obtain ⟨hz, h1, ⟨a, b, h2⟩, h3, h4⟩ := st
    have cl := c1
    have cm := c2
    simp only [List.mem_cons, List.not_mem_nil, or_false, not_or] at c1 c2
    obtain ⟨its, r1, _, n1⟩ := I.sqk hl
    obtain ⟨jts, r2, _, n2⟩ := I.sqk hm
    obtain ⟨p1, N1, u1, v1⟩ := n1 i c1.2.2.2.1
    obtain ⟨p2, N2, u2, v2⟩ := n2 j c2.2.2.2.2
    have D : [z, TI, TO, i, j].Nodup := by simp [a1, a2, a3, a4, a5, a6, a7, a8, a9, b1, Ne.symm a1, Ne.symm a2, Ne.symm a3, Ne.symm a4]
    refine zip_done (I.ok.hd hc) D cl cm N1 N2 hz h1 h2 (u1 k h3) (u2 k h4) (hend.elim (fun q => .inl (by simpa using r1.none_of q)) fun q => .inr (by simpa using r2.none_of q)) fun h' kp => ⟨rfl, ?_⟩
    have kp2 : ∀ c o, c ∉ [z, TI, TO, i, j] → s.heap.get? c = some o → h'.get? c = some o := fun c o hc' e => by
      simp only [List.mem_cons, List.not_mem_nil, or_false, not_or] at hc'
      exact kp c o hc'.1 hc'.2.2.1 hc'.2.2.2.1 hc'.2.2.2.2 e
    have hch : ∀ b ∈ [z, TI, TO, i, j], (b ∈ X.ex ∨ X.s₀.heap.objs.size ≤ b) ∧ b ≠ X.env.locals ∧ (∀ x c, X.env.cells.lookup x = some c → c ≠ b) ∧ ∀ p ∈ X.pn ++ pins, p.1 ≠ b := fun b hb => ⟨(hf b hb).2.2.2.1, (hf b hb).2.1, (hf b hb).2.2.2.2.1, (hf b hb).2.2.2.2.2⟩
    refine I.step (g' := s.gens) (d' := s.drawn) (t' := s.toks) (ch := [z, TI, TO, i, j]) hch (fun c o _ _ hc' e _ => kp2 c o hc' e) (fun c o _ _ hc' e _ => ⟨o.slots, kp2 c o hc' e⟩) (fun _ _ _ _ n => n) (fun c o hc' e => ⟨o, kp2 c o hc' e⟩) (fun _ _ e => e) (fun _ _ _ e => e) (fun b ps e => ⟨#[], by rw [e]; simp⟩) (fun m' hm' => ?_) (fun c o e => ?_) I.bare
    · obtain ⟨o, es', ep, ho, r⟩ := hm'
      exact ⟨o, es', ep, kp2 _ o (fun zz => (hf _ zz).2.1 rfl) ho, r⟩
    · refine (I.hok c o e).stay (fun d w' hd q => kp2 d w' (fun zz => ?_) q) (fun _ q => q) fun _ _ q => q
      have hn := (hf d zz).1
      rcases hd with rfl | hd
      · rw [hn] at e; cases e
      · rw [hn] at hd; cases hd
  self := fun A k s Q E st h => wpAny_pyIter_zip st.1 h
end L2
end
section
/-! zip(a, b) made. -/
namespace L2
open PySem PySem.Spec PyProof.Rows
set_option maxHeartbeats 4000000
set_option maxRecDepth 100000
set_option Elab.async false
set_option linter.unusedVariables false
/-- zip.__new__ of two tuples, walked: two iterators, two pairs, the zip -/
theorem tz_new (l m : Addr) (xs ys : Array Value) : Meets (Builtin.«zip.__new__» ⟨[.type "zip", .ref l, .ref m], []⟩) (fun _ R s => s.heap.IsTuple l xs ∧ s.heap.IsTuple m ys ∧
      ∀ h' : Heap, IsZip h' (s.heap.objs.size + 4) (s.heap.objs.size + 2) (s.heap.objs.size + 3) .none → IsPair h' (s.heap.objs.size + 2) (.ref s.heap.objs.size) (.ref (s.heap.objs.size + 1)) →
        IsPair h' (s.heap.objs.size + 3) .none .none → h'.IsTupleIter s.heap.objs.size l 0 → h'.IsTupleIter (s.heap.objs.size + 1) m 0 → (∀ c o, s.heap.get? c = some o → h'.get? c = some o) →
        R (.ok (.ret (.ref (s.heap.objs.size + 4)))) { s with heap := h' }) :=
  .of_wp fun prog w A R s h => by
    obtain ⟨hp, g, d, tk, os⟩ := s
    obtain ⟨h1, h2, h⟩ := h
    have hsub := sub_zip
    wp_walk using wpAny_pyIter_tuple h1, wpAny_pyIter_tuple (Heap.IsTuple.push h2 _)
    simp only [Heap.size_push]
    refine ⟨_, rfl, h _ (Heap.get?_push_at (by simp only [Heap.size_push]) rfl) ?_ ?_ ?_ ?_ fun c o x => ?_⟩
    · exact Heap.get?_push_of_some _ (Heap.get?_push_of_some _ (Heap.get?_push_at (by simp only [Heap.size_push]) rfl))
    · exact Heap.get?_push_of_some _ (Heap.get?_push_at (by simp only [Heap.size_push]) rfl)
    · exact ⟨_, Heap.get?_push_of_some _ (Heap.get?_push_of_some _ (Heap.get?_push_of_some _ (Heap.get?_push_of_some _ (Heap.get?_push_size _ rfl)))), rfl, rfl⟩
    · exact ⟨_, Heap.get?_push_of_some _ (Heap.get?_push_of_some _ (Heap.get?_push_of_some _ (Heap.get?_push_at (by simp only [Heap.size_push]) rfl))), rfl, rfl⟩
    repeat (first | exact x | refine Heap.get?_push_of_some _ ?_)
section
variable {prog : Program} {w : World} {A : Around} {E : Value → Shared → Prop} {s : Shared}
theorem zip_tups {l m : Addr} {xs ys : Array Value} {Q : Value → Shared → Prop} (h1 : s.heap.IsTuple l xs) (h2 : s.heap.IsTuple m ys)
    (h : ∀ h', IsZip h' (s.heap.objs.size + 4) (s.heap.objs.size + 2) (s.heap.objs.size + 3) .none → IsPair h' (s.heap.objs.size + 2) (.ref s.heap.objs.size) (.ref (s.heap.objs.size + 1)) →
      IsPair h' (s.heap.objs.size + 3) .none .none → h'.IsTupleIter s.heap.objs.size l 0 → h'.IsTupleIter (s.heap.objs.size + 1) m 0 →
      (∀ c o, s.heap.get? c = some o → h'.get? c = some o) → Q (.ref (s.heap.objs.size + 4)) { s with heap := h' }) :
    wpAny (model prog w) A (call (.type "zip") [.ref l, .ref m]) Q E s :=
  callType_new F.called_zip (by decide) (F.typeCall_zip_2 _ _) (F.newCall_zip_2 _ _) (fun obj => F.args_object_init_3 obj _ _) F.entry_zip_new (tz_new l m xs ys)
    ⟨h1, h2, fun h' z p1 p2 i1 i2 kp => ⟨⟨_, z, rfl⟩, h h' z p1 p2 i1 i2 kp⟩⟩
end
theorem apart_nat (n : Nat) {a b : Nat} (h : a ≠ b) : n + a ≠ n + b := fun z => h (Nat.add_left_cancel z)
theorem not_fresh5 {n c : Nat} (h : c < n) (z : c = n + 4 ∨ c = n + 2 ∨ c = n + 3 ∨ c = n ∨ c = n + 1) : False := by omega
theorem fresh5 {n c : Nat} (z : c = n + 4 ∨ c = n + 2 ∨ c = n + 3 ∨ c = n ∨ c = n + 1) : n ≤ c := by omega
section
variable {X : Cx}
def iZip (t : Bool) (K : PySem.W.Frag) (ta : TA) : TI := fun σ H R => ta σ H fun vs H1 => ∃ l m xs ys, vs = [.ref l, .ref m] ∧ SqK t K H1 l xs ∧ SqK t K H1 m ys ∧ R (Itz t K l m) H1
theorem pi_zip (t : Bool) {es : List Expr} {k0 : Nat} {tp : Pos} {a b : Expr} {ta : TA} {p pos : Pos} (hg : Gl X "zip") (hm : X.mg "zip" = none) (ha : PA X [a, b] ta) (hs : starEach [a, b] X.env = [(false, eval a X.env), (false, eval b X.env)] := by rfl) (hs2 : starEach [b] X.env = [(false, eval b X.env)] := by rfl) :
    PI X (.Tuple es k0 tp) (.Call (.Name "zip" p) [a, b] [] pos) (iZip t X.K ta) := by
  intro pins s σ H R I h
  refine Call_ (ld_blt I hg hm boot_zip (PyProof.Rows.callWith_type1 (thn (ha pos pins s σ H _ I h) fun us s1 ⟨vs, H1, I1, r1, q1⟩ => ?_) (by rw [hs, hs2]) (by rw [hs2]; rfl)))
  obtain ⟨l, m, xs, ys, e, hl, hm', q⟩ := q1
  subst e
  obtain ⟨u, u', rfl, ru, ru'⟩ := vals2 r1
  cases (show u = Value.ref l from ru)
  cases (show u' = Value.ref m from ru')
  obtain ⟨its, _, ⟨ol, eol, _⟩, _⟩ := I1.sqk hl
  obtain ⟨jts, _, ⟨om, eom, _⟩, _⟩ := I1.sqk hm'
  have ll : l < s1.heap.objs.size := Heap.lt_size eol
  have lm : m < s1.heap.objs.size := Heap.lt_size eom
  have fin : ∀ h' : Heap, IsZip h' (s1.heap.objs.size + 4) (s1.heap.objs.size + 2) (s1.heap.objs.size + 3) .none → IsPair h' (s1.heap.objs.size + 2) (.ref s1.heap.objs.size) (.ref (s1.heap.objs.size + 1)) →
      IsPair h' (s1.heap.objs.size + 3) .none .none → ItAt t s1.heap.objs.size l 0 h' → ItAt t (s1.heap.objs.size + 1) m 0 h' → (∀ c o, s1.heap.get? c = some o → h'.get? c = some o) →
      wpAny (model X.prog X.w) X.A (pyIter (.ref (s1.heap.objs.size + 4))) (PIE X pins σ (.Tuple es k0 tp) R) X.xe { s1 with heap := h' } := fun h' z1 z2 z3 z4 z5 kp => by
    have I2 : Inv X pins σ H1 { s1 with heap := h' } := I1.kept (t' := s1.toks) kp
    refine wpAny_pyIter_zip z1 ⟨s1.heap.objs.size + 4, [s1.heap.objs.size + 4, s1.heap.objs.size + 2, s1.heap.objs.size + 3, s1.heap.objs.size, s1.heap.objs.size + 1], _, _, H1, rfl, I2,
      turn_zip (t := t) (l := l) (m := m) (apart_nat _ (a := 2) (b := 4) (by decide)) (apart_nat _ (a := 3) (b := 4) (by decide)) (apart_nat _ (a := 0) (b := 4) (by decide)) (apart_nat _ (a := 1) (b := 4) (by decide)) (apart_nat _ (a := 2) (b := 3) (by decide)) (apart_nat _ (a := 2) (b := 0) (by decide)) (apart_nat _ (a := 2) (b := 1) (by decide)) (apart_nat _ (a := 3) (b := 0) (by decide)) (apart_nat _ (a := 3) (b := 1) (by decide)) (apart_nat _ (a := 0) (b := 1) (by decide)) (fun z => ?_) (fun z => ?_), ⟨z1, z2, ⟨_, _, z3⟩, z4, z5⟩, fun c hc => ?_, q⟩
    · simp only [List.mem_cons, List.not_mem_nil, or_false] at z; exact not_fresh5 ll z
    · simp only [List.mem_cons, List.not_mem_nil, or_false] at z; exact not_fresh5 lm z
    · have hcs : s1.heap.objs.size ≤ c := by simp only [List.mem_cons, List.not_mem_nil, or_false] at hc; exact fresh5 hc
      exact I1.fpOk hcs (I1.hok.fresh hcs)
  cases t
  · obtain ⟨its, _, pl, _⟩ := I1.list (show SqL X.K H1 l xs from hl)
    obtain ⟨jts, _, pm, _⟩ := I1.list (show SqL X.K H1 m ys from hm')
    exact call_zip_2 pl.isList pm.isList fun h' z1 z2 z3 z4 z5 _ kp => fin h' z1 z2 z3 z4 z5 kp
  · obtain ⟨its, _, pl, _⟩ := I1.tuple (show SqT X.K H1 l xs from hl)
    obtain ⟨jts, _, pm, _⟩ := I1.tuple (show SqT X.K H1 m ys from hm')
    exact zip_tups pl pm fun h' z1 z2 z3 z4 z5 kp => fin h' z1 z2 z3 z4 z5 kp
end
end L2
end
section
/-! SHORT WORDS for a whole text: own defs by name, built-ins by name. -/
namespace L2
open PySem PySem.Spec PyProof.Rows
set_option maxHeartbeats 4000000
set_option Elab.async false
set_option linter.unusedVariables false
/-- the def x keeps sp with k calls left -/
def Has (P : Program) (w : World) (K : PySem.W.Frag) (mg : Str → Option Value) (base : Heap) (k : Nat) (x : Str) (ps : List Str) (sp : Sp) : Prop :=
  ∃ (f : Addr) (fd : FuncData), FnOk P w K mg base CX0 k f fd ps sp ∧ mg x = some (.ref f) ∧ PySem.W.keepIn K (.ref f) = true ∧ Binds K fd ps []
section
variable {X : Cx} {k k' : Nat} {x : Str} {ps : List Str} {sp : Sp} {e : Expr} {es : List Expr} {t : TA} {p pos : Pos}
theorem pe_def (h : Has X.prog X.w X.K X.mg X.base k x ps sp) (hr : Room k' X.A) (ha : PA X (e :: es) t) (hg : Gl X x := by rfl) (hk : k ≤ k' := by decide) (hdb : (x == ("__debug__" : Str)) = false := by decide)
    (he : starEach (e :: es) X.env = (false, eval e X.env) :: starEach es X.env := by rfl) (hpl : (backTo pos (starEach es X.env)).any (·.1) = false := by rfl) : PE X (.Call (.Name x p) (e :: es) [] pos) (tCall sp [] E0 t) := by
  obtain ⟨f, fd, F, m, kp, b⟩ := h
  exact pe_call F (hr.mono hk) hg m kp b .nil pass0 ha hdb he hpl
/-- a built-in type as a value -/
theorem pe_ty {T : String} (hm : X.mg x = none) (hv : bootBuiltins x = some (.type T)) (hg : Gl X x := by rfl) (hn : x ≠ "__name__" := by decide) (hd : (x == ("__debug__" : Str)) = false := by decide) : PE X (.Name x pos) (tC (.ty T)) := pe_bltn hg hm hv rfl hn hd
end
/-- the built-ins that a text uses are no names of its own -/
structure Nb (mg : Str → Option Value) : Prop where
  len : mg "len" = none
  isi : mg "isinstance" = none
  bool : mg "bool" = none
  int : mg "int" = none
  tuple : mg "tuple" = none
  list : mg "list" = none
  range : mg "range" = none
  zip : mg "zip" = none
  all : mg "all" = none
  max : mg "max" = none
  min : mg "min" = none
end L2
end
section
/-! A comprehension without tests whose elements only add to the heap. -/
namespace L2
open PySem PySem.Spec PyProof.Rows
set_option maxHeartbeats 4000000
set_option Elab.async false
set_option linter.unusedVariables false
theorem Same.upd_free {H1 H5 : Hp} {D : Addr} (s : Same H1 H5) (hD : H1 D = none) (o : HO) : Same H1 (upd H5 D o) := fun b u q => by rw [upd_ne (ne_of_none q hD)]; exact s b u q
theorem comp_go {J : It} {g : TG} {te : TE} {Q : VK} {D : Addr} {H1 : Hp} {σ0 : St} (n : Nat) (hn : n ≤ sizeLine) (f : Nat → V) (Sg : St → Prop) (itm : Nat → Hp → V → Prop) (hD : H1 D = none) (s0 : Sg σ0)
    (items : ∀ i H, Same H1 H → (i < n → J.go i H ∧ ∀ x H2, J.yld i H x H2 → Same H H2 ∧ itm i H2 x) ∧ (n ≤ i → J.stop i H))
    (step : ∀ i x σ' H, i < n → Same H1 H → itm i H x → Sg σ' → ∀ R : St → V → Hp → Prop, (∀ σ3 y H5, Sg σ3 → Same H H5 → y = f i → R σ3 y H5) → g x σ' H fun σ3 H3 => te σ3 H3 (R σ3))
    (fin : ∀ H', Same H1 H' → H' D = some (.lst ((List.range n).map f)) → Q (.ref D) H') :
    cmpW J g tYes te Q D σ0 H1 := by
  refine ⟨fun i m σ H => m = n - i ∧ i ≤ n ∧ Sg σ ∧ Same H1 H ∧ H D = some (.lst ((List.range i).map f)), ⟨n, by omega, Nat.zero_le _, s0, (Same.refl H1).upd_free hD _, upd_same⟩, ?_⟩
  rintro i m σ H ⟨rfl, hi, hs, sm, hd⟩
  by_cases hlt : i < n
  · obtain ⟨go, yl⟩ := (items i H sm).1 hlt
    refine .inr ⟨go, fun x H2 y => ?_⟩
    obtain ⟨s2, im⟩ := yl x H2 y
    have e : (fun (σ3 : St) (H3 : Hp) => tYes σ3 H3 fun ok H4 =>
        if ok = true then te σ3 H4 fun y H5 => ∃ ys, H5 D = some (.lst ys) ∧ ys.length < sizeLine ∧ ∃ m', m' < n - i ∧ (m' = n - (i + 1) ∧ i + 1 ≤ n ∧ Sg σ3 ∧ Same H1 (upd H5 D (.lst (ys ++ [y]))) ∧ upd H5 D (.lst (ys ++ [y])) D = some (.lst ((List.range (i + 1)).map f)))
        else ∃ m', m' < n - i ∧ (m' = n - (i + 1) ∧ i + 1 ≤ n ∧ Sg σ3 ∧ Same H1 H4 ∧ H4 D = some (.lst ((List.range (i + 1)).map f)))) =
        fun σ3 H3 => te σ3 H3 fun y H5 => ∃ ys, H5 D = some (.lst ys) ∧ ys.length < sizeLine ∧ ∃ m', m' < n - i ∧ (m' = n - (i + 1) ∧ i + 1 ≤ n ∧ Sg σ3 ∧ Same H1 (upd H5 D (.lst (ys ++ [y]))) ∧ upd H5 D (.lst (ys ++ [y])) D = some (.lst ((List.range (i + 1)).map f))) := by
      funext σ3 H3
      unfold tYes
      dsimp only
      rw [if_pos rfl]
    rw [e]
    refine step i x σ H2 hlt (sm.trans s2) im hs _ fun σ3 y H5 g3 s5 ey => ?_
    refine ⟨_, s5 _ _ (s2 _ _ hd), by rw [List.length_map, List.length_range]; omega, n - (i + 1), by omega, rfl, by omega, g3, (sm.trans (s2.trans s5)).upd_free hD _, ?_⟩
    rw [upd_same, ey, List.range_succ, List.map_append]
    rfl
  · have e : i = n := by omega
    subst e
    exact .inl ⟨(items i H sm).2 (Nat.le_refl _), fin H sm hd⟩
/-- over a tracked tuple -/
theorem items_tup {K : PySem.W.Frag} {a : Addr} {xs : List V} {H1 : Hp} (h : H1 a = some (.tup xs)) (i : Nat) (H : Hp) (s : Same H1 H) :
    (i < xs.length → (Itt K a).go i H ∧ ∀ x H2, (Itt K a).yld i H x H2 → Same H H2 ∧ xs[i]? = some x) ∧ (xs.length ≤ i → (Itt K a).stop i H) := by
  have q : SqT K H a xs := SqT.of (s _ _ h)
  refine ⟨fun hi => ⟨⟨xs, xs[i], q, List.getElem?_eq_getElem hi⟩, fun x H2 ⟨e, y⟩ => ?_⟩, fun hi => ⟨xs, q, hi⟩⟩
  subst e
  exact ⟨Same.refl _, y xs q⟩
theorem items_lst {K : PySem.W.Frag} {a : Addr} {xs : List V} {H1 : Hp} (h : H1 a = some (.lst xs)) (i : Nat) (H : Hp) (s : Same H1 H) :
    (i < xs.length → (Itl K a).go i H ∧ ∀ x H2, (Itl K a).yld i H x H2 → Same H H2 ∧ xs[i]? = some x) ∧ (xs.length ≤ i → (Itl K a).stop i H) := by
  have q : SqL K H a xs := SqL.of (s _ _ h)
  refine ⟨fun hi => ⟨⟨xs, xs[i], q, List.getElem?_eq_getElem hi⟩, fun x H2 ⟨e, y⟩ => ?_⟩, fun hi => ⟨xs, q, hi⟩⟩
  subst e
  exact ⟨Same.refl _, y xs q⟩
/-- over two tracked tuples, side by side -/
theorem items_zip {K : PySem.W.Frag} {a b : Addr} {xs ys : List V} {H1 : Hp} (h : H1 a = some (.tup xs)) (h' : H1 b = some (.tup ys)) (i : Nat) (H : Hp) (s : Same H1 H) :
    (i < min xs.length ys.length → (Itz true K a b).go i H ∧ ∀ v H2, (Itz true K a b).yld i H v H2 → Same H H2 ∧ ∃ p x y, v = .ref p ∧ H2 p = some (.tup [x, y]) ∧ xs[i]? = some x ∧ ys[i]? = some y) ∧ (min xs.length ys.length ≤ i → (Itz true K a b).stop i H) := by
  have q : SqK true K H a xs := SqT.of (s _ _ h)
  have q' : SqK true K H b ys := SqT.of (s _ _ h')
  refine ⟨fun hi => ⟨⟨xs, ys, xs[i]'(by omega), ys[i]'(by omega), q, q', List.getElem?_eq_getElem (by omega), List.getElem?_eq_getElem (by omega)⟩, fun v H2 ⟨p, x, y, e1, e2, e3, e4, e5⟩ => ?_⟩, fun hi => ⟨xs, ys, q, q', ?_⟩⟩
  · subst e3
    exact ⟨same_new e2 _, p, x, y, e1, upd_same, e4 xs q, e5 ys q'⟩
  · by_cases hx : xs.length ≤ i
    · exact .inl (List.getElem?_eq_none hx)
    · exact .inr (List.getElem?_eq_none (by omega))
end L2
end
section
/-! Comprehensions with a name, with a pair of names as target. -/
namespace L2
open PySem PySem.Spec PyProof.Rows
set_option maxHeartbeats 4000000
set_option Elab.async false
set_option linter.unusedVariables false
section
variable {X : Cx} {elt iter : Expr} {ifs : List Expr} {scope : Scope} {pos : Pos} {N : List Str} {js : List Nat} {sc : Scope} {N0 : List Str} {wi : TI} {tt : TT} {te : TE} {x y : Str} {px py tp : Pos} {k : Nat}
theorem blk_loc {cl : List (Str × Addr)} {C : Addr} {s : Shared} {H : Hp} {fp : List Addr} (h : scope.names.lookup x = some .local) : (blk X N scope cl C s H fp).env.scope.names.lookup x = some .local := lookup_relabel_local h
theorem pe_comp1 (hc : X.calm = true) (hsc : X.env.scope = sc) (hN : X.N = N0) (B : Blk sc N0 (x :: N) 1 js scope) (hx : scope.names.lookup x = some .local) (hi : PI X (.Name x px) iter wi)
    (ht : ∀ cl C s H fp, PTs (blk X (x :: N) scope cl C s H fp) ifs tt) (he : ∀ cl C s H fp, PE (blk X (x :: N) scope cl C s H fp) elt te)
    (hs : ∀ x, foldedSetIterable iter X.env x = pure x := by intro _; rfl) : PE X (.ListComp elt [⟨.Name x px, iter, ifs, 0⟩] scope pos) (tComp 1 js wi (gName 0) tt te) :=
  pe_comp hc hsc hN B hi (fun cl C s H fp => pg_name (i := 0) B.nd rfl (.inl (blk_loc hx)) (.inr (blk_loc hx))) ht he hs
theorem pe_comp2 (hc : X.calm = true) (hsc : X.env.scope = sc) (hN : X.N = N0) (B : Blk sc N0 (x :: y :: N) 2 js scope) (hx : scope.names.lookup x = some .local) (hy : scope.names.lookup y = some .local) (hi : PI X (.Tuple [.Name x px, .Name y py] k tp) iter wi)
    (ht : ∀ cl C s H fp, PTs (blk X (x :: y :: N) scope cl C s H fp) ifs tt) (he : ∀ cl C s H fp, PE (blk X (x :: y :: N) scope cl C s H fp) elt te)
    (hs : ∀ x, foldedSetIterable iter X.env x = pure x := by intro _; rfl) : PE X (.ListComp elt [⟨.Tuple [.Name x px, .Name y py] k tp, iter, ifs, 0⟩] scope pos) (tComp 2 js wi (gTup X.K 2 (gCons (gName 0) (gCons (gName 1) gNil))) tt te) :=
  pe_comp hc hsc hN B hi (fun cl C s H fp => pg_tup (X := blk X (x :: y :: N) scope cl C s H fp) hc (pgs_cons (pg_name (i := 0) B.nd rfl (.inl (blk_loc hx)) (.inr (blk_loc hx))) (pgs_cons (pg_name (i := 1) B.nd rfl (.inl (blk_loc hy)) (.inr (blk_loc hy))) pgs_nil))) ht he hs
end
end L2
end
section
/-! LONG DISPLAYS: the judgement in a box that is not looked into while it is put together. -/
namespace L2
open PySem PySem.Spec PyProof.Rows
set_option maxHeartbeats 4000000
set_option Elab.async false
set_option linter.unusedVariables false
structure SA (X : Cx) (es : List Expr) (t : TA) : Prop where
  get : PA X es t
structure SE (X : Cx) (e : Expr) (t : TE) : Prop where
  get : PE X e t
section
variable {X : Cx} {e : Expr} {es : List Expr} {te : TE} {t : TA} {pos : Pos}
end
end L2
end
section
/-! reversed(t) of a tuple: what the tables say of the type `reversed`. -/
namespace L2
open PySem PySem.Spec PyProof.Rows
set_option maxHeartbeats 4000000
set_option maxRecDepth 100000
set_option Elab.async false
set_option linter.unusedVariables false
end L2
end
section
namespace L2
open PySem PySem.Spec PyProof.Rows
set_option maxHeartbeats 4000000
set_option maxRecDepth 100000
set_option Elab.async false
set_option linter.unusedVariables false
section
variable {prog : Program} {w : World} {A : Around} {E : Value → Shared → Prop}
end
section
variable {X : Cx} {tg : Expr}
end
end L2
end
section
/-! Tuples of ints held side by side; list(range(a, b, c)); comprehensions with a test. -/
namespace L2
open PySem PySem.Spec PyProof.Rows
set_option maxHeartbeats 4000000
set_option Elab.async false
set_option linter.unusedVariables false
theorem vals_of : ∀ (us : List Value) (ns : List Int), us.length = ns.length → (∀ (j : Nat) (u : Value), us[j]? = some u → ∃ t, ∃ i, ns[j]? = some i ∧ u = Value.int i t) → Vals (ns.map V.int) us
  | [], [], _, _ => .nil
  | x :: r, n :: ns, hl, hh => by
    obtain ⟨t, i, e1, e2⟩ := hh 0 x rfl
    have e1' : n = i := by simpa using e1
    subst e1' e2
    exact .cons ⟨t, rfl⟩ (vals_of r ns (by simpa using hl) fun j u h => hh (j + 1) u h)
theorem all_same (ns ms : List Int) : ((List.range (min ns.length ms.length)).all (fun j => ns.getD j 0 == ms.getD j 0) && (ns.length == ms.length)) = decide (ns = ms) := by
  rw [Bool.eq_iff_iff, Bool.and_eq_true, List.all_eq_true, decide_eq_true_eq, beq_iff_eq]
  constructor
  · rintro ⟨h1, h2⟩
    apply List.ext_getElem h2
    intro i a b
    have := h1 i (List.mem_range.mpr (by omega))
    rw [beq_iff_eq, List.getD_eq_getElem?_getD, List.getD_eq_getElem?_getD, List.getElem?_eq_getElem a, List.getElem?_eq_getElem b] at this
    exact this
  · rintro rfl
    exact ⟨fun i _ => by rw [beq_iff_eq], rfl⟩
theorem of_rcne' {prog : Program} {w : World} {A : Around} {E : Value → Shared → Prop} {s : Shared} {a b : Value} {k : Bool} {Q : Value → Shared → Prop} (h : SeqAt.RcNeAt A s a b k) (hq : Q (.bool k) s) : wpAny (model prog w) A (compareOp .NotEq a b) Q E s := h prog w E Q hq
section
variable {X : Cx}
theorem int_val {n : Int} {u : Value} (r : RelV (.int n) u) : ∃ t, u = .int n t := r
theorem ints_eqAt {A : Around} {s : Shared} {ns ms : List Int} {its its2 : List Value} (r1 : Vals (ns.map V.int) its) (r2 : Vals (ms.map V.int) its2) (j : Nat) (h1 : j < its.toArray.size) (h2 : j < its2.toArray.size) :
    SeqAt.EqAt A s its.toArray[j] its2.toArray[j] (ns.getD j 0 == ms.getD j 0) := by
  have l1 := r1.length
  have l2 := r2.length
  rw [List.length_map] at l1 l2
  simp only [List.size_toArray] at h1 h2
  have e1 : (ns.map V.int)[j]? = some (.int ns[j]) := by rw [List.getElem?_map, List.getElem?_eq_getElem (by omega)]; rfl
  have e2 : (ms.map V.int)[j]? = some (.int ms[j]) := by rw [List.getElem?_map, List.getElem?_eq_getElem (by omega)]; rfl
  obtain ⟨u, hu, ru⟩ := r1.get e1
  obtain ⟨v, hv, rv⟩ := r2.get e2
  obtain ⟨t, rfl⟩ := int_val ru
  obtain ⟨t', rfl⟩ := int_val rv
  have a1 : its.toArray[j] = .int ns[j] t := by
    have := (List.getElem?_eq_some_iff.mp hu).2
    simpa using this
  have a2 : its2.toArray[j] = .int ms[j] t' := by
    have := (List.getElem?_eq_some_iff.mp hv).2
    simpa using this
  rw [a1, a2, List.getD_eq_getElem?_getD, List.getD_eq_getElem?_getD, List.getElem?_eq_getElem (by omega), List.getElem?_eq_getElem (by omega)]
  exact SeqAt.EqAt.int_int _ _ _ _
end
end L2
end
section
/-! name = [comprehension]; comprehensions with a test; ranges walked by a comprehension. -/
namespace L2
open PySem PySem.Spec PyProof.Rows
set_option maxHeartbeats 4000000
set_option Elab.async false
set_option linter.unusedVariables false
/-- name = [comprehension]: the name is stored while the block still stands -/
def tSetC (i : Nat) (te : TE) : TS := fun D σ H => te σ H fun v H1 => D.nx (σ.set i (some v)) H1
theorem ps_comp {X : Cx} {elt tg iter : Expr} {ifs : List Expr} {scope : Scope} {pos pos' spos : Pos} {N : List Str} {nt : Nat} {js : List Nat} {sc : Scope} {N0 : List Str} {wi : TI} {g : TG} {tt : TT} {te : TE} {ii : Nat} {nm : Str}
    (hNd : X.N.Nodup) (hii : X.N[ii]? = some nm) (hloc : Loc X.env.scope nm)
    (hc : X.calm = true) (hsc : X.env.scope = sc) (hN : X.N = N0) (B : Blk sc N0 N nt js scope) (hi : PI X tg iter wi)
    (hg : ∀ cl C s H fp, PG (blk X N scope cl C s H fp) tg g) (ht : ∀ cl C s H fp, PTs (blk X N scope cl C s H fp) ifs tt) (he : ∀ cl C s H fp, PE (blk X N scope cl C s H fp) elt te)
    (hsw : swapsWith (.ListComp elt [⟨tg, iter, ifs, 0⟩] scope pos) (some (.Name nm pos')) spos.line X.env = pure true := by rfl)
    (hf : X.fn nm = true ∨ X.env.scope.names.lookup nm = some .local := by first | exact .inl rfl | exact .inr rfl | assumption)
    (hs : ∀ x, foldedSetIterable iter X.env x = pure x := by intro _; rfl) : PS X (.Assign [.Name nm pos'] (.ListComp elt [⟨tg, iter, ifs, 0⟩] scope pos) spos) (tSetC ii (tComp nt js wi g tt te)) := by
  subst hsc hN
  intro pins s σ H D I h
  obtain ⟨cl, hcl, c1, c2⟩ := clos_of (env := X.env) (scope := scope) fun y hy hk => I.ok.has y.1 (B.cap y hy hk)
  rw [PySem.exec_Assign_Name_used _ _ _ _ hsw]
  refine wpAny_bind (wpAny_standAt (wpAny_bind ?_))
  show wpAny _ _ (comprehension _ scope X.env _ _ _ _ (some (assign (.Name nm pos') X.env)) >>= _) _ _ _
  refine wpAny_bind (thn (Q := fun _ s' => ∃ σ' H', Inv X pins σ' H' s' ∧ D.nx σ' H') ?_ fun _ s9 q9 => wpAny_pure (wpAny_pure q9))
  refine wpAny_comprehension_free (use := some (assign (.Name nm pos') X.env)) rfl hs hcl B.kind B.loc (thn (hi pins s σ H _ I h) fun v s1 q1 => thn q1 fun itv s2 q2 => ?_)
  obtain ⟨it, fp, tn, J, H2, e, I2, T, st2, f2, q2⟩ := q2
  subst e
  obtain ⟨W, ⟨m0, w0⟩, turn⟩ := q2 s2.heap.objs.size (I2.hok.fresh (Nat.le_refl _))
  have hlt : ∀ b ∈ fp, b < s2.heap.objs.size := fun b hb => by
    obtain ⟨o, eo, _⟩ := T.obj _ _ st2 b hb
    exact Heap.lt_size eo
  refine wpAny_newObj_type (wpAny_newFunctionEnv B.nocell (by intro y hy; simp at hy) (fun h1 hns hsb => ?_) B.kind)
  dsimp only at hns hsb ⊢
  have hsz : (s2.heap.push { cls := .type "list", dict := none, data := .seq ([] : List Value).toArray }).objs.size = s2.heap.objs.size + 1 := by rw [Heap.size_push]
  have old : ∀ b o, s2.heap.get? b = some o → h1.get? b = some o := fun b o eb => hsb.extBut b o (by rw [hsz]; exact Nat.ne_of_lt (Nat.lt_succ_of_lt (Heap.lt_size eb))) (Heap.get?_push_of_some _ (Heap.get?_push_of_some _ eb))
  have hD : h1.get? s2.heap.objs.size = some { cls := .type "list", data := .seq ([] : List Value).toArray 0 } := hsb.extBut _ _ (by rw [hsz]; exact Nat.ne_of_lt (Nat.lt_succ_self _)) (Heap.get?_push_of_some _ (Heap.get?_push_size _ rfl))
  rw [hsz] at hns
  have I3 := blk_start (cl := cl) (fp := fp) (tk := s2.toks + ([] : List (Str × Value)).length) I2 B c1 c2 f2 hlt old (show h1.Ns (s2.heap.objs.size + 1) fun _ => none from hns) hD
  have stat : ∀ {H' : Hp}, (∀ b ∈ fp, H' b = none) → ∀ b ∈ fp, FpOk (blk X N scope cl (s2.heap.objs.size + 1) s2 H2 fp) [] H' b := fun {H'} hn b hb =>
    ⟨hn b hb, Nat.ne_of_lt (Nat.lt_succ_of_lt (hlt b hb)), fun z => (List.mem_cons.mp (I2.stkSub b z)).elim (f2 b hb).2.1 (f2 b hb).2.2.1, .inl hb, fun x c ec => (f2 b hb).2.2.2.2.1 x c (c1 x c ec), fun p hp => absurd (show p ∈ ([] : List (Addr × Obj)) from hp) (by simp)⟩
  have fin : ∀ {i : Nat} {σ' : St} {H' : Hp} {s' : Shared}, Inv (blk X N scope cl (s2.heap.objs.size + 1) s2 H2 fp) [] σ' H' s' → D.nx (σ.set ii (some (.ref s2.heap.objs.size))) H' →
      compPost (model X.prog X.w) X.A X.xe (some (assign (.Name nm pos') X.env)) (fun _ s' => ∃ σ' H', Inv X pins σ' H' s' ∧ D.nx σ' H') (.ref s2.heap.objs.size) (s2.heap.objs.size + 1) (.ok .next) s' := fun {i σ' H' s'} Ib q => by
    obtain ⟨m, hn, _⟩ := id Ib.loc
    have I4 : Inv X pins σ H' s' := I2.call' Ib.os Ib.base Ib.hok Ib.bare fun b hb => ⟨(f2 b hb).2.2.2.1, (f2 b hb).2.1, (f2 b hb).2.2.2.2.1, (f2 b hb).2.2.2.2.2⟩
    obtain ⟨g0, g1, g2, g3, g4, g5⟩ := I2.fpOk (H' := H') (Nat.le_succ _) Ib.free
    show wpAny _ _ (assign (.Name nm pos') X.env (.ref s2.heap.objs.size)) _ _ _
    refine wpAny_bind (wpAny_standAt (wpAny_bindName (store_ok2 I4 hNd hii hloc (v := .ref s2.heap.objs.size) rfl (fun s5 I5 ⟨a, sb, ha⟩ => ?_) hf)))
    have na : s2.heap.objs.size + 1 ≠ a := by
      rcases ha with rfl | ha
      · exact g1
      · exact fun z => g4 _ _ ha z.symm
    refine ⟨m, hn.sameBut sb na, fun h'' hs'' => ?_⟩
    exact ⟨_, H', I5.turned (t' := s5.toks) (fun b o hb eb => hs''.extBut b o hb eb) g0 g1 g3 g4 g5, q⟩
  have loop : codeAny (model X.prog X.w) X.A (.compLoop (.ListComp elt [⟨tg, iter, ifs, 0⟩] scope pos) 0 (.ref it) (.ref s2.heap.objs.size) (compEnvC scope cl (s2.heap.objs.size + 1) X.env))
      (compPost (model X.prog X.w) X.A X.xe (some (assign (.Name nm pos') X.env)) (fun _ s' => ∃ σ' H', Inv X pins σ' H' s' ∧ D.nx σ' H') (.ref s2.heap.objs.size) (s2.heap.objs.size + 1)) { s2 with heap := h1, toks := s2.toks + ([] : List (Str × Value)).length } := by
    refine comp_turns (fun n s' => ∃ i σ' H', Inv (blk X N scope cl (s2.heap.objs.size + 1) s2 H2 fp) [] σ' H' s' ∧ tn i s'.heap ∧ (∀ b ∈ fp, H' b = none) ∧ W i n σ' H') ?_ m0
      ⟨0, _, _, I3, T.keep _ _ _ st2 fun b _ o eb => old b o eb, fun b hb => ?_, w0⟩
    · rintro n s3 ⟨i, σ3, H3, J3, st3, fr3, w3⟩
      rcases turn i n σ3 H3 w3 with ⟨stop, qn⟩ | ⟨go, step⟩
      · refine thn (T.done (blk X N scope cl (s2.heap.objs.size + 1) s2 H2 fp) rfl rfl rfl hc i [] s3 σ3 H3 _ J3 (stat fr3) st3 stop) fun r s4 ⟨hr, I4⟩ => ?_
        subst hr
        exact fin (i := i) I4 qn
      · refine thn (T.item (blk X N scope cl (s2.heap.objs.size + 1) s2 H2 fp) rfl rfl rfl hc i [] s3 σ3 H3 _ J3 (stat fr3) st3 go) fun r s4 ⟨u, hr, h4⟩ => ?_
        subst hr
        refine thn h4 fun _ s5 ⟨x, H5, I5, r5, y5, st5, fr5⟩ => ?_
        have I5' := I5.pinned (stat fr5) (T.obj _ _ st5)
        refine thn (hg _ _ _ _ _ _ s5 σ3 H5 x u _ I5' r5 (step x H5 y5)) fun _ s6 ⟨σ6, H6, I6, q6⟩ => ?_
        have again : ∀ {σ7 : St} {H7 : Hp} {s7 : Shared} {k : Nat}, Inv (blk X N scope cl (s2.heap.objs.size + 1) s2 H2 fp) ([] ++ pinsAt fp s5.heap) σ7 H7 s7 → k < n → W (i + 1) k σ7 H7 →
            ∃ k, k < n ∧ ∃ i σ' H', Inv (blk X N scope cl (s2.heap.objs.size + 1) s2 H2 fp) [] σ' H' s7 ∧ tn i s7.heap ∧ (∀ b ∈ fp, H' b = none) ∧ W i k σ' H' := fun {σ7 H7 s7 k} I7 hk w7 => by
          refine ⟨k, hk, i + 1, σ7, H7, I7.unpinned, T.keep _ _ _ st5 fun b hb o eb => (I7.pin (b, o) (List.mem_append_right _ (List.mem_append_right _ (mem_pinsAt hb eb)))).1, fun b hb => ?_, w7⟩
          obtain ⟨o, eb, _⟩ := T.obj _ _ st5 b hb
          exact (I7.pin (b, o) (List.mem_append_right _ (List.mem_append_right _ (mem_pinsAt hb eb)))).2.1
        refine thn (ht _ _ _ _ _ _ s6 σ6 H6 _ I6 q6) fun ok s7 ⟨H7, I7, q7⟩ => ?_
        cases ok with
        | false =>
          rw [if_neg Bool.false_ne_true] at q7 ⊢
          obtain ⟨k, hk, w7⟩ := q7
          exact again I7 hk w7
        | true =>
          rw [if_pos rfl] at q7 ⊢
          refine thn (he _ _ _ _ _ _ s7 σ6 H7 _ I7 q7) fun y s8 ⟨v8, H8, I8, r8, ys, e8, z8, k, hk, w8⟩ => ?_
          refine thn (mt_append _ s8 σ6 H8 (.ref s2.heap.objs.size) [v8] _ [y] (fun _ H9 => W (i + 1) k σ6 H9) I8 rfl (.cons r8 .nil) ⟨_, ys, v8, rfl, rfl, e8, z8, w8⟩) fun _ s9 ⟨_, H9, I9, _, w9⟩ => ?_
          exact again I9 hk w9
    · show upd H2 _ _ b = none
      rw [upd_ne (Nat.ne_of_lt (hlt b hb))]
      exact (f2 b hb).1
  rw [hsz]
  exact codeAny_compStart_list loop (T.self _ 0 _ _ _ (T.keep _ _ _ st2 fun b _ o eb => old b o eb) loop)

end L2
end
section
/-! Comprehensions with a test; ranges and reversed tuples walked by one. -/
namespace L2
open PySem PySem.Spec PyProof.Rows
set_option maxHeartbeats 4000000
set_option Elab.async false
set_option linter.unusedVariables false
theorem range_filter_succ (n : Nat) (keep : Nat → Bool) : (List.range (n + 1)).filter keep = (List.range n).filter keep ++ (if keep n = true then [n] else []) := by
  rw [List.range_succ, List.filter_append]
  congr 1
  cases h : keep n <;> simp [h]
theorem comp_sel {J : It} {g : TG} {tt : TT} {te : TE} {Q : VK} {D : Addr} {H1 : Hp} {σ0 : St} (n : Nat) (hn : n ≤ sizeLine) (keep : Nat → Bool) (f : Nat → V) (Sg : St → Prop) (itm : Nat → Hp → V → Prop) (hD : H1 D = none) (s0 : Sg σ0)
    (items : ∀ i H, Same H1 H → (i < n → J.go i H ∧ ∀ x H2, J.yld i H x H2 → Same H H2 ∧ itm i H2 x) ∧ (n ≤ i → J.stop i H))
    (step : ∀ i x σ' H, i < n → Same H1 H → itm i H x → Sg σ' → ∀ (R : St → V → Hp → Prop) (S : St → Hp → Prop), (keep i = true → ∀ σ3 y H5, Sg σ3 → Same H H5 → y = f i → R σ3 y H5) → (keep i = false → ∀ σ3 H4, Sg σ3 → Same H H4 → S σ3 H4) →
      g x σ' H fun σ3 H3 => tt σ3 H3 fun ok H4 => if ok = true then te σ3 H4 (R σ3) else S σ3 H4)
    (fin : ∀ H', Same H1 H' → H' D = some (.lst (((List.range n).filter keep).map f)) → Q (.ref D) H') :
    cmpW J g tt te Q D σ0 H1 := by
  refine ⟨fun i m σ H => m = n - i ∧ i ≤ n ∧ Sg σ ∧ Same H1 H ∧ H D = some (.lst (((List.range i).filter keep).map f)), ⟨n, by omega, Nat.zero_le _, s0, (Same.refl H1).upd_free hD _, upd_same⟩, ?_⟩
  rintro i m σ H ⟨rfl, hi, hs, sm, hd⟩
  by_cases hlt : i < n
  · obtain ⟨go, yl⟩ := (items i H sm).1 hlt
    refine .inr ⟨go, fun x H2 y => ?_⟩
    obtain ⟨s2, im⟩ := yl x H2 y
    refine step i x σ H2 hlt (sm.trans s2) im hs _ _ (fun kp σ3 y H5 g3 s5 ey => ?_) (fun kp σ3 H4 g3 s4 => ?_)
    · have ll : (((List.range i).filter keep).map f).length ≤ i := by
        rw [List.length_map]
        exact Nat.le_trans (List.length_filter_le _ _) (by rw [List.length_range]; exact Nat.le_refl _)
      refine ⟨_, s5 _ _ (s2 _ _ hd), by omega, n - (i + 1), by omega, rfl, by omega, g3, (sm.trans (s2.trans s5)).upd_free hD _, ?_⟩
      rw [upd_same, ey, range_filter_succ, if_pos kp, List.map_append]
      rfl
    · refine ⟨n - (i + 1), by omega, rfl, by omega, g3, sm.trans (s2.trans s4), ?_⟩
      rw [s4 _ _ (s2 _ _ hd), range_filter_succ, if_neg (by rw [kp]; exact Bool.false_ne_true), List.append_nil]
  · have e : i = n := by omega
    subst e
    exact .inl ⟨(items i H sm).2 (Nat.le_refl _), fin H sm hd⟩
end L2
end
section
/-! BALLS AND BOXES: a carrier goes from the left to the right over the boxes. -/
namespace BB
/-- at one box: the load behind it, and whether a ball lies there then -/
def stp (z L : Nat) (b : Bool) : Nat × Bool :=
  if b then (if L < z then (L + 1, false) else (L, true)) else (if 0 < L then (L - 1, true) else (0, false))
def out (z : Nat) : Nat → List Bool → List Bool
  | _, [] => []
  | L, b :: r => (stp z L b).2 :: out z (stp z L b).1 r
def fin (z : Nat) : Nat → List Bool → Nat
  | L, [] => L
  | L, b :: r => fin z (stp z L b).1 r
theorem fin_append (z : Nat) : ∀ (L : Nat) (x y : List Bool), fin z L (x ++ y) = fin z (fin z L x) y
  | _, [], _ => rfl
  | L, b :: r, y => fin_append z _ r y
theorem out_length (z : Nat) : ∀ (L : Nat) (bs : List Bool), (out z L bs).length = bs.length
  | _, [] => rfl
  | L, b :: r => by
    show (out z _ r).length + 1 = r.length + 1
    rw [out_length z _ r]
theorem count_out {z : Nat} : ∀ {L : Nat} {bs : List Bool}, (out z L bs).count true + fin z L bs = L + bs.count true
  | L, [] => by simp [out, fin]
  | L, b :: r => by
    have ih := count_out (z := z) (L := (stp z L b).1) (bs := r)
    have e1 : out z L (b :: r) = (stp z L b).2 :: out z (stp z L b).1 r := rfl
    have e2 : fin z L (b :: r) = fin z (stp z L b).1 r := rfl
    rw [e1, e2, List.count_cons, List.count_cons]
    have k : (stp z L b).1 + (if (stp z L b).2 == true then 1 else 0) = L + (if b == true then 1 else 0) := by
      unfold stp
      cases b
      · simp only [Bool.false_eq_true, if_false]
        split <;> simp <;> omega
      · simp only [if_true]
        split <;> simp
    omega
/-- the places of the balls -/
def places : Int → List Bool → List Int
  | _, [] => []
  | lo, b :: r => (if b = true then [lo] else []) ++ places (lo + 1) r
theorem places_append : ∀ (lo : Int) (x y : List Bool), places lo (x ++ y) = places lo x ++ places (lo + (x.length : Int)) y
  | lo, [], y => by show places lo y = places (lo + ((0 : Nat) : Int)) y; congr 1; omega
  | lo, b :: r, y => by
    show _ ++ places (lo + 1) (r ++ y) = (_ ++ places (lo + 1) r) ++ places (lo + ((r.length + 1 : Nat) : Int)) y
    rw [places_append (lo + 1) r y, List.append_assoc]
    congr 3
    omega
theorem places_length : ∀ (lo : Int) (bs : List Bool), (places lo bs).length = bs.count true
  | _, [] => rfl
  | lo, b :: r => by
    show (_ ++ places (lo + 1) r).length = _
    rw [List.length_append, places_length (lo + 1) r, List.count_cons]
    cases b <;> simp <;> omega
theorem places_ge : ∀ {lo : Int} {bs : List Bool} {p : Int}, p ∈ places lo bs → lo ≤ p ∧ p < lo + (bs.length : Int)
  | lo, [], p, h => by cases h
  | lo, b :: r, p, h => by
    rcases List.mem_append.mp (show p ∈ (if b = true then [lo] else []) ++ places (lo + 1) r from h) with h | h
    · cases b
      · cases h
      · have : p = lo := by simpa using h
        subst this
        simp only [List.length_cons]
        omega
    · have := places_ge h
      simp only [List.length_cons]
      omega
theorem places_up : ∀ (lo : Int) (bs : List Bool), (places lo bs).Pairwise (· < ·)
  | _, [] => .nil
  | lo, b :: r => by
    refine List.pairwise_append.mpr ⟨by cases b <;> simp, places_up (lo + 1) r, fun x hx y hy => ?_⟩
    have := places_ge hy
    cases b
    · cases hx
    · have : x = lo := by simpa using hx
      omega
/-- as many places on from lo -/
def row (lo : Int) (n : Nat) : List Int := (List.range n).map fun (k : Nat) => lo + (k : Int)
theorem row_zero (lo : Int) : row lo 0 = [] := rfl
theorem row_succ (lo : Int) (n : Nat) : row lo (n + 1) = lo :: row (lo + 1) n := by
  unfold row
  rw [List.range_succ_eq_map, List.map_cons, List.map_map]
  congr 1
  · show lo + ((0 : Nat) : Int) = lo
    omega
  · refine List.map_congr_left fun k _ => ?_
    show lo + ((k + 1 : Nat) : Int) = lo + 1 + (k : Int)
    omega
/-- ball by ball -/
def sp (z : Nat) : Nat → Int → List Int → List Int
  | L, box, [] => row box L
  | L, box, p :: r => row box (min L (p - box).toNat) ++
    (if L - min L (p - box).toNat < z then sp z (L - min L (p - box).toNat + 1) (p + 1) r else p :: sp z (L - min L (p - box).toNat) (p + 1) r)
theorem sp_gap {z L : Nat} {lo : Int} {rw_ : List Int} (h : ∀ p ∈ rw_, lo + 1 ≤ p) : sp z L lo rw_ = if 0 < L then lo :: sp z (L - 1) (lo + 1) rw_ else sp z 0 (lo + 1) rw_ := by
  cases rw_ with
  | nil =>
    show row lo L = if 0 < L then lo :: row (lo + 1) (L - 1) else row (lo + 1) 0
    cases L with
    | zero => rfl
    | succ L => rw [if_pos (Nat.succ_pos L), row_succ]; rfl
  | cons p r =>
    have hp := h p (List.mem_cons_self ..)
    cases L with
    | zero =>
      rw [if_neg (by omega)]
      unfold sp
      rw [Nat.zero_min, Nat.zero_min]
      rfl
    | succ L =>
      rw [if_pos (Nat.succ_pos L)]
      have e : min (L + 1) (p - lo).toNat = min L (p - (lo + 1)).toNat + 1 := by omega
      unfold sp
      rw [e, row_succ, show L + 1 - 1 = L from rfl, show L + 1 - (min L (p - (lo + 1)).toNat + 1) = L - min L (p - (lo + 1)).toNat by omega]
      rfl
theorem sp_places (z : Nat) : ∀ (L : Nat) (lo : Int) (bs : List Bool), sp z L lo (places lo bs) = places lo (out z L bs) ++ row (lo + (bs.length : Int)) (fin z L bs)
  | L, lo, [] => by
    show row lo L = [] ++ row (lo + ((0 : Nat) : Int)) L
    rw [List.nil_append]
    congr 1
    omega
  | L, lo, false :: r => by
    have e : places lo (false :: r) = places (lo + 1) r := rfl
    rw [e, sp_gap fun p hp => (places_ge hp).1]
    have el : lo + 1 + (r.length : Int) = lo + ((false :: r).length : Int) := by simp only [List.length_cons]; omega
    by_cases c : 0 < L
    · rw [if_pos c, sp_places z (L - 1) (lo + 1) r, el]
      have e1 : stp z L false = (L - 1, true) := by unfold stp; simp only [Bool.false_eq_true, if_false, if_pos c]
      show _ = ((if (stp z L false).2 = true then [lo] else []) ++ places (lo + 1) (out z (stp z L false).1 r)) ++ row _ (fin z (stp z L false).1 r)
      rw [e1]
      rfl
    · rw [if_neg c, sp_places z 0 (lo + 1) r, el]
      have e1 : stp z L false = (0, false) := by unfold stp; simp only [Bool.false_eq_true, if_false, if_neg c]
      show _ = ((if (stp z L false).2 = true then [lo] else []) ++ places (lo + 1) (out z (stp z L false).1 r)) ++ row _ (fin z (stp z L false).1 r)
      rw [e1]
      rfl
  | L, lo, true :: r => by
    have e : places lo (true :: r) = lo :: places (lo + 1) r := rfl
    have el : lo + 1 + (r.length : Int) = lo + ((true :: r).length : Int) := by simp only [List.length_cons]; omega
    rw [e]
    unfold sp
    have em : min L (lo - lo).toNat = 0 := by rw [Int.sub_self]; exact Nat.min_zero L
    rw [em, row_zero, List.nil_append, Nat.sub_zero]
    by_cases c : L < z
    · rw [if_pos c, sp_places z (L + 1) (lo + 1) r, el]
      have e1 : stp z L true = (L + 1, false) := by unfold stp; simp only [if_true, if_pos c]
      show _ = ((if (stp z L true).2 = true then [lo] else []) ++ places (lo + 1) (out z (stp z L true).1 r)) ++ row _ (fin z (stp z L true).1 r)
      rw [e1]
      rfl
    · rw [if_neg c, sp_places z L (lo + 1) r, el]
      have e1 : stp z L true = (L, true) := by unfold stp; simp only [if_true, if_neg c]
      show _ = ((if (stp z L true).2 = true then [lo] else []) ++ places (lo + 1) (out z (stp z L true).1 r)) ++ row _ (fin z (stp z L true).1 r)
      rw [e1]
      rfl
theorem sp_free {z : Nat} {box box' : Int} : ∀ {r : List Int}, sp z 0 box r = sp z 0 box' r
  | [] => rfl
  | p :: r => by
    unfold sp
    rw [Nat.zero_min, Nat.zero_min]
    rfl
/-- the row behind a step of a carrier -/
def step (z : Nat) (r : List Int) : List Int := sp z 0 (r.headD 0) r
theorem step_places {z : Nat} {lo : Int} {bs : List Bool} (h : fin z 0 bs = 0) : step z (places lo bs) = places lo (out z 0 bs) := by
  unfold step
  rw [sp_free (box' := lo), sp_places, h, row_zero, List.append_nil]
/-- every rising row is the places of some boxes -/
theorem cells : ∀ (n : Nat) (lo : Int) (r : List Int), r.Pairwise (· < ·) → (∀ p ∈ r, lo ≤ p ∧ p < lo + (n : Int)) → ∃ bs : List Bool, bs.length = n ∧ places lo bs = r
  | 0, lo, r, _, h => by
    cases r with
    | nil => exact ⟨[], rfl, rfl⟩
    | cons p r => have := h p (List.mem_cons_self ..); omega
  | n + 1, lo, r, up, h => by
    cases r with
    | nil =>
      obtain ⟨bs, e1, e2⟩ := cells n (lo + 1) [] .nil (fun p hp => by cases hp)
      exact ⟨false :: bs, by rw [List.length_cons, e1], e2⟩
    | cons p r =>
      obtain ⟨u1, u2⟩ := List.pairwise_cons.mp up
      have hp := h p (List.mem_cons_self ..)
      by_cases c : p = lo
      · subst c
        obtain ⟨bs, e1, e2⟩ := cells n (p + 1) r u2 fun q hq => by
          have := u1 q hq
          have := h q (List.mem_cons_of_mem _ hq)
          omega
        refine ⟨true :: bs, by rw [List.length_cons, e1], ?_⟩
        show [p] ++ places (p + 1) bs = _
        rw [e2]
        rfl
      · obtain ⟨bs, e1, e2⟩ := cells n (lo + 1) (p :: r) up fun q hq => by
          have := h q hq
          rcases List.mem_cons.mp hq with rfl | hq'
          · omega
          · have := u1 q hq'
            omega
        exact ⟨false :: bs, by rw [List.length_cons, e1], e2⟩
theorem fin_falses (z : Nat) : ∀ (k L : Nat), fin z L (List.replicate k false) = L - k
  | 0, L => rfl
  | k + 1, L => by
    show fin z (stp z L false).1 (List.replicate k false) = _
    rw [fin_falses z k]
    unfold stp
    simp only [Bool.false_eq_true, if_false]
    split <;> simp only <;> omega
theorem places_falses : ∀ (k : Nat) (lo : Int), places lo (List.replicate k false) = []
  | 0, _ => rfl
  | k + 1, lo => places_falses k (lo + 1)
/-- with boxes enough behind, the carrier ends with nothing -/
theorem window (z : Nat) {A B : Int} {r : List Int} (up : r.Pairwise (· < ·)) (h : ∀ p ∈ r, A ≤ p ∧ p ≤ B) : ∃ bs : List Bool, places A bs = r ∧ fin z 0 bs = 0 ∧ bs.count true = r.length ∧ (r ≠ [] → A + (bs.length : Int) ≤ B + 1 + (r.length : Int)) := by
  obtain ⟨bs, e1, e2⟩ := cells (B + 1 - A).toNat A r up fun p hp => by have := h p hp; omega
  have hc : bs.count true = r.length := by rw [← places_length A bs, e2]
  have hf : fin z 0 bs ≤ r.length := by have := count_out (z := z) (L := 0) (bs := bs); omega
  refine ⟨bs ++ List.replicate (fin z 0 bs) false, ?_, ?_, ?_, fun ne => ?_⟩
  · rw [places_append, places_falses, List.append_nil, e2]
  · rw [fin_append, fin_falses, Nat.sub_self]
  · rw [List.count_append, hc]
    have : (List.replicate (fin z 0 bs) false).count true = 0 := by simp [List.count_replicate]
    omega
  · cases r with
    | nil => exact absurd rfl ne
    | cons p r =>
      have := h p (List.mem_cons_self ..)
      rw [List.length_append, List.length_replicate, e1]
      omega
/-- rising, so many, between A and B -/
structure Rw (r : List Int) (k : Nat) (A B : Int) : Prop where
  up : r.Pairwise (· < ·)
  len : r.length = k
  bd : ∀ p ∈ r, A ≤ p ∧ p ≤ B
theorem Rw.mono {r : List Int} {k : Nat} {A B A' B' : Int} (h : Rw r k A B) (ha : A' ≤ A) (hb : B ≤ B') : Rw r k A' B' := ⟨h.up, h.len, fun p hp => by have := h.bd p hp; omega⟩
theorem Rw.step {r : List Int} {k : Nat} {A B : Int} (z : Nat) (h : Rw r k A B) : Rw (step z r) k A (B + (k : Int)) := by
  obtain ⟨bs, e1, e2, e3, e4⟩ := window z h.up h.bd
  have hc := count_out (z := z) (L := 0) (bs := bs)
  rw [← e1, step_places e2]
  refine ⟨places_up _ _, by rw [places_length]; have := h.len; omega, fun p hp => ?_⟩
  have := places_ge hp
  rw [out_length] at this
  have ne : r ≠ [] := fun w => by
    have : (places A (out z 0 bs)).length = 0 := by rw [places_length]; rw [w] at e3; simp only [List.length_nil] at e3; omega
    rw [List.length_eq_zero_iff] at this
    rw [this] at hp
    cases hp
  have := e4 ne
  have := h.len
  omega
end BB
end
section
/-! Steps again and again, shifts, loads. -/
namespace BB
def it (f : List Int → List Int) : Nat → List Int → List Int
  | 0, r => r
  | n + 1, r => f (it f n r)
theorem Rw.its {z : Nat} {r : List Int} {k : Nat} {A B : Int} (h : Rw r k A B) : ∀ n : Nat, Rw (it (BB.step z) n r) k A (B + (n : Int) * (k : Int))
  | 0 => by
    show Rw r k A (B + ((0 : Nat) : Int) * (k : Int))
    rw [show ((0 : Nat) : Int) * (k : Int) = 0 by simp, Int.add_zero]
    exact h
  | n + 1 => by
    have := (h.its (z := z) n).step z
    rw [show B + ((n + 1 : Nat) : Int) * (k : Int) = B + (n : Int) * (k : Int) + (k : Int) by rw [Int.natCast_add, Int.add_mul]; omega]
    exact this
/-! shifts -/
/-! loads -/
def ld (L : Nat) (b : Bool) : Nat := if b then L + 1 else L - 1
def lst : Nat → List Bool → Nat
  | L, [] => L
  | L, b :: r => lst (ld L b) r
end BB
end
section
/-! name = [comprehension over one name]; two more built-ins. -/
namespace L2
open PySem PySem.Spec PyProof.Rows
set_option maxHeartbeats 4000000
set_option Elab.async false
set_option linter.unusedVariables false
structure Nb2 (mg : Str → Option Value) : Prop extends Nb mg where
  rev : mg "reversed" = none
  abs : mg "abs" = none
section
variable {X : Cx} {elt iter : Expr} {ifs : List Expr} {scope : Scope} {pos pos' spos : Pos} {N : List Str} {js : List Nat} {sc : Scope} {N0 : List Str} {wi : TI} {tt : TT} {te : TE} {x nm : Str} {px : Pos} {ii : Nat}
theorem ps_comp1 (hNd : X.N.Nodup) (hii : X.N[ii]? = some nm) (hloc : Loc X.env.scope nm) (hc : X.calm = true) (hsc : X.env.scope = sc) (hN : X.N = N0) (B : Blk sc N0 (x :: N) 1 js scope) (hx : scope.names.lookup x = some .local) (hi : PI X (.Name x px) iter wi)
    (ht : ∀ cl C s H fp, PTs (blk X (x :: N) scope cl C s H fp) ifs tt) (he : ∀ cl C s H fp, PE (blk X (x :: N) scope cl C s H fp) elt te)
    (hsw : swapsWith (.ListComp elt [⟨.Name x px, iter, ifs, 0⟩] scope pos) (some (.Name nm pos')) spos.line X.env = pure true := by rfl)
    (hf : X.fn nm = true ∨ X.env.scope.names.lookup nm = some .local := by first | exact .inl rfl | exact .inr rfl | assumption)
    (hs : ∀ x, foldedSetIterable iter X.env x = pure x := by intro _; rfl) : PS X (.Assign [.Name nm pos'] (.ListComp elt [⟨.Name x px, iter, ifs, 0⟩] scope pos) spos) (tSetC ii (tComp 1 js wi (gName 0) tt te)) :=
  ps_comp hNd hii hloc hc hsc hN B hi (fun cl C s H fp => pg_name (i := 0) B.nd rfl (.inl (blk_loc hx)) (.inr (blk_loc hx))) ht he hsw hf hs
end
end L2
end
section
set_option Elab.async false
set_option linter.all false
set_option maxRecDepth 100000
namespace L2
open PySem PySem.Spec PyProof.Rows

/-! ### lists of pairs as tables -/
section
variable {κ : Type} [DecidableEq κ]
def valV (kvs : List (κ × V)) (k : κ) : Option V := (kvs.find? fun kv => decide (kv.1 = k)).map (·.2)
/-- in its place, or at the end -/
def putK (kvs : List (κ × V)) (k : κ) (v : V) : List (κ × V) :=
  if (kvs.any fun kv => decide (kv.1 = k)) = true then kvs.map (fun kv => if kv.1 = k then (kv.1, v) else kv) else kvs ++ [(k, v)]
def dropK (kvs : List (κ × V)) (k : κ) : List (κ × V) := kvs.filter fun kv => decide (kv.1 ≠ k)

theorem valV_nil {k : κ} : valV ([] : List (κ × V)) k = none := rfl
theorem valV_pos {p : κ × V} {r : List (κ × V)} {k : κ} (e : p.1 = k) : valV (p :: r) k = some p.2 := by simp [valV, List.find?_cons, e]
theorem valV_neg {p : κ × V} {r : List (κ × V)} {k : κ} (e : ¬ p.1 = k) : valV (p :: r) k = valV r k := by simp [valV, List.find?_cons, e]
theorem valV_any (k : κ) : ∀ kvs : List (κ × V), (kvs.any fun kv => decide (kv.1 = k)) = (valV kvs k).isSome
  | [] => rfl
  | p :: r => by
    rw [List.any_cons]
    by_cases e : p.1 = k
    · simp only [valV_pos e, decide_eq_true e, Bool.true_or, Option.isSome_some]
    · rw [valV_neg e, decide_eq_false e, Bool.false_or]; exact valV_any k r
theorem valV_map (k j : κ) (y : V) : ∀ kvs : List (κ × V), valV (kvs.map fun kv => if kv.1 = k then (kv.1, y) else kv) j = (valV kvs j).map fun x => if j = k then y else x
  | [] => rfl
  | p :: r => by
    have ih := valV_map k j y r
    rw [List.map_cons]
    by_cases h : p.1 = k
    · rw [if_pos h]
      by_cases e : p.1 = j
      · rw [valV_pos (p := (p.1, y)) e, valV_pos e, Option.map_some, if_pos (e.symm.trans h)]
      · rw [valV_neg (p := (p.1, y)) e, valV_neg e, ih]
    · rw [if_neg h]
      by_cases e : p.1 = j
      · rw [valV_pos (p := p) e, valV_pos e, Option.map_some, if_neg (fun z => h (e.trans z))]
      · rw [valV_neg (p := p) e, valV_neg e, ih]
theorem valV_snoc (k j : κ) (y : V) : ∀ kvs : List (κ × V), valV kvs k = none → valV (kvs ++ [(k, y)]) j = if j = k then some y else valV kvs j
  | [], _ => by
    by_cases e : k = j
    · rw [if_pos e.symm]; exact valV_pos (p := (k, y)) e
    · rw [if_neg (fun z => e z.symm)]; exact valV_neg (p := (k, y)) e
  | p :: r, hn => by
    rw [List.cons_append]
    have hk : ¬ p.1 = k := fun z => by rw [valV_pos z] at hn; cases hn
    rw [valV_neg hk] at hn
    have ih := valV_snoc k j y r hn
    by_cases e : p.1 = j
    · rw [valV_pos e, valV_pos e, if_neg (fun z => hk (e.trans z))]
    · rw [valV_neg e, valV_neg e, ih]
theorem valV_put (kvs : List (κ × V)) (k j : κ) (y : V) : valV (putK kvs k y) j = if j = k then some y else valV kvs j := by
  unfold putK
  by_cases a : (kvs.any fun kv => decide (kv.1 = k)) = true
  · rw [if_pos a, valV_map]
    rw [valV_any] at a
    by_cases e : j = k
    · obtain ⟨x, hx⟩ := Option.isSome_iff_exists.mp a
      rw [if_pos e, e, hx, Option.map_some, if_pos rfl]
    · rw [if_neg e]
      cases valV kvs j with
      | none => rfl
      | some x => rw [Option.map_some, if_neg e]
  · rw [if_neg a]
    refine valV_snoc k j y kvs ?_
    rw [valV_any] at a
    cases q : valV kvs k with
    | none => rfl
    | some x => rw [q] at a; exact (a rfl).elim
theorem length_putK (kvs : List (κ × V)) (k : κ) (v : V) : (putK kvs k v).length ≤ kvs.length + 1 := by
  unfold putK
  split
  · rw [List.length_map]; omega
  · rw [List.length_append, List.length_cons, List.length_nil]; omega
theorem RelO.isSome_eq {o : Option V} {u : Option Value} (r : RelO o u) : o.isSome = u.isSome := by
  cases o with
  | none => cases u with
    | none => rfl
    | some _ => exact (show False from r).elim
  | some _ => cases u with
    | none => exact (show False from r).elim
    | some _ => rfl
theorem RelO.getD {o : Option V} {u : Option Value} {d : V} {d' : Value} (r : RelO o u) (rd : RelV d d') : RelV (o.getD d) (u.getD d') := by
  cases o with
  | none => cases u with
    | none => exact rd
    | some _ => exact (show False from r).elim
  | some _ => cases u with
    | none => exact (show False from r).elim
    | some _ => exact r

/-- raw tables of the same keys -/
theorem KV.val {kvs : List (κ × V)} {vs : List (κ × Value)} (r : KV kvs vs) (k : κ) : RelO (valV kvs k) (valueAt vs k) := by
  unfold KV at r
  induction r with
  | nil => exact True.intro
  | @cons p q ps qs h t ih =>
    obtain ⟨h1, h2⟩ := h
    by_cases e : p.1 = k
    · have e' : q.1 = k := h1.symm.trans e
      have b : valueAt (q :: qs) k = some q.2 := by simp [valueAt, List.find?_cons, e']
      rw [valV_pos e, b]; exact h2
    · have e' : ¬ q.1 = k := fun z => e (h1.trans z)
      have b : valueAt (q :: qs) k = valueAt qs k := by simp [valueAt, List.find?_cons, e']
      rw [valV_neg e, b]; exact ih
theorem KV.any {kvs : List (κ × V)} {vs : List (κ × Value)} (r : KV kvs vs) (k : κ) : (kvs.any fun kv => decide (kv.1 = k)) = vs.any fun kv => decide (kv.1 = k) := by
  unfold KV at r
  induction r with
  | nil => rfl
  | cons h t ih => rw [List.any_cons, List.any_cons, ih, h.1]
theorem KV.repl {kvs : List (κ × V)} {vs : List (κ × Value)} (r : KV kvs vs) (k : κ) {y : V} {u : Value} (ry : RelV y u) :
    KV (kvs.map fun kv => if kv.1 = k then (kv.1, y) else kv) (vs.map fun kv => if kv.1 = k then (kv.1, u) else kv) := by
  unfold KV at r ⊢
  induction r with
  | nil => exact .nil
  | @cons p q ps qs h t ih =>
    rw [List.map_cons, List.map_cons]
    refine .cons ?_ ih
    obtain ⟨h1, h2⟩ := h
    by_cases e : p.1 = k
    · rw [if_pos e, if_pos (h1.symm.trans e)]; exact ⟨h1, ry⟩
    · rw [if_neg e, if_neg (fun z => e (h1.trans z))]; exact ⟨h1, h2⟩
theorem KV.put {kvs : List (κ × V)} {vs : List (κ × Value)} (r : KV kvs vs) (k : κ) {y : V} {u : Value} (ry : RelV y u) : KV (putK kvs k y) (stored vs k u) := by
  unfold putK stored
  rw [r.any k]
  by_cases e : (vs.any fun kv => decide (kv.1 = k)) = true
  · rw [if_pos e, if_pos e]; exact r.repl k ry
  · rw [if_neg e, if_neg e]; exact Paired.snoc r ⟨rfl, ry⟩
theorem KV.drop {kvs : List (κ × V)} {vs : List (κ × Value)} (r : KV kvs vs) (k : κ) : KV (dropK kvs k) (without vs k) := by
  unfold KV at r ⊢
  unfold dropK without
  induction r with
  | nil => exact .nil
  | @cons p q ps qs h t ih =>
    obtain ⟨h1, h2⟩ := h
    rw [List.filter_cons, List.filter_cons]
    by_cases e : p.1 = k
    · have a : ¬ decide (p.1 ≠ k) = true := by simp [e]
      have b : ¬ decide (q.1 ≠ k) = true := by simp [h1.symm.trans e]
      rw [if_neg a, if_neg b]; exact ih
    · have e' : ¬ q.1 = k := fun z => e (h1.trans z)
      have a : decide (p.1 ≠ k) = true := by simp [e]
      have b : decide (q.1 ≠ k) = true := by simp [e']
      rw [if_pos a, if_pos b]; exact .cons ⟨h1, h2⟩ ih
theorem KV.length {kvs : List (κ × V)} {vs : List (κ × Value)} (r : KV kvs vs) : kvs.length = vs.length := Paired.length r
end


/-! ### a tracked dict, its keys ints and texts or tuples of these -/
theorem kV_is {P : Program} {w : World} {k : Key} {u : Value} (r : RelV (kV k) u) : (mixKind P w).is k u = true := by
  cases k with
  | inl i => obtain ⟨t, e⟩ := (show ∃ t, u = Value.int i t from r); subst e; exact mixKind_int P w i t
  | inr x => obtain ⟨t, e⟩ := (show ∃ t, u = Value.str x t from r); subst e; exact mixKind_str P w x t
theorem items_are {P : Program} {w : World} : ∀ {ks : List Key} {us : List Value}, Vals (ks.map kV) us → ItemsAre (mixKind P w) ks us
  | [], _, r => by rw [List.map_nil] at r; cases r; exact .nil
  | k :: ks, _, r => by
    rw [List.map_cons] at r
    cases r with
    | cons h t => exact .cons (kV_is h) (items_are t)

/-- raw entries of a dict with tuple keys -/
abbrev KT (H : Hp) : List (List Key × V) → List (List Key × Addr × Value) → Prop := Paired fun p q => p.1 = q.1 ∧ H q.2.1 = some (.tup (p.1.map kV)) ∧ RelV p.2 q.2.2
theorem KT.val {H : Hp} {kvs : List (List Key × V)} {xs : List (List Key × Addr × Value)} (r : KT H kvs xs) (k : List Key) : RelO (valV kvs k) ((atKey xs k).map (·.2)) := by
  induction r with
  | nil => exact True.intro
  | @cons p q ps qs h t ih =>
    obtain ⟨h1, _, h2⟩ := h
    by_cases e : p.1 = k
    · have e' : q.1 = k := h1.symm.trans e
      have b : atKey (q :: qs) k = some q.2 := by simp [atKey, List.find?_cons, e']
      rw [valV_pos e, b]; exact h2
    · have e' : ¬ q.1 = k := fun z => e (h1.trans z)
      have b : atKey (q :: qs) k = atKey qs k := by simp [atKey, List.find?_cons, e']
      rw [valV_neg e, b]; exact ih
theorem KT.repl {H : Hp} {kvs : List (List Key × V)} {xs : List (List Key × Addr × Value)} (r : KT H kvs xs) (k : List Key) {y : V} {u : Value} (ry : RelV y u) :
    KT H (kvs.map fun kv => if kv.1 = k then (kv.1, y) else kv) (xs.map (putAt k u)) := by
  induction r with
  | nil => exact .nil
  | @cons p q ps qs h t ih =>
    rw [List.map_cons, List.map_cons]
    refine .cons ?_ ih
    obtain ⟨h1, h2, h3⟩ := h
    unfold putAt
    by_cases e : p.1 = k
    · rw [if_pos e, if_pos (h1.symm.trans e)]; exact ⟨h1, h2, ry⟩
    · rw [if_neg e, if_neg (fun z => e (h1.trans z))]; exact ⟨h1, h2, h3⟩
theorem KT.put {H : Hp} {kvs : List (List Key × V)} {xs : List (List Key × Addr × Value)} (r : KT H kvs xs) (k : List Key) {b : Addr} {y : V} {u : Value} (hb : H b = some (.tup (k.map kV))) (ry : RelV y u) :
    KT H (putK kvs k y) (storedH xs k b u) := by
  have e : (kvs.any fun kv => decide (kv.1 = k)) = (atKey xs k).isSome := by
    rw [valV_any, (r.val k).isSome_eq, Option.isSome_map]
  unfold putK storedH
  rw [e]
  by_cases q : (atKey xs k).isSome = true
  · rw [if_pos q, if_pos q]; exact r.repl k ry
  · rw [if_neg q, if_neg q]; exact Paired.snoc r ⟨rfl, hb, ry⟩
theorem KT.keeps {H H' : Hp} {kvs : List (List Key × V)} {xs : List (List Key × Addr × Value)} (r : KT H kvs xs) (ht : ∀ b ys, H b = some (.tup ys) → H' b = some (.tup ys)) : KT H' kvs xs :=
  Paired.mapP r fun _ _ z => ⟨z.1, ht _ _ z.2.1, z.2.2⟩

section
variable {P : Program} {w : World} {H : Hp} {h : Heap} {a : Addr}
theorem rd_of {u : HO} (ok : HOk P w H h) (e : Rd H a u) : ObjOk P w H h a u := e.ok ok
theorem dk_rd {kvs : List (Key × V)} (ok : HOk P w H h) (e : Rd H a (.dK kvs)) : kvs.length ≤ sizeLine ∧ (a == sysModules) = false ∧ ∃ vs, KV kvs vs ∧ h.DictOf (mixKind P w) a vs :=
  show ObjOk P w H h a (.dK kvs) from rd_of ok e
theorem dk_of {kvs : List (Key × V)} (ok : HOk P w H h) (e : H a = some (.dK kvs)) : kvs.length ≤ sizeLine ∧ (a == sysModules) = false ∧ ∃ vs, KV kvs vs ∧ h.DictOf (mixKind P w) a vs := dk_rd ok (.inl e)
/-- a tracked tuple of ints and texts is a key -/
theorem key_of {ks : List Key} (ok : HOk P w H h) (e : H a = some (.tup (ks.map kV))) : (tupleKind (mixKind P w)).is h ks a := by
  obtain ⟨_, its, r, o, h1, h2, n, h3⟩ := (show ObjOk P w H h a (.tup (ks.map kV)) from ok a _ e)
  exact ⟨o, its.toArray, n, h1, h2, h3, by simpa using items_are r⟩
theorem dt_rd {kvs : List (List Key × V)} (ok : HOk P w H h) (e : Rd H a (.dT kvs)) : kvs.length ≤ sizeLine ∧ (a == sysModules) = false ∧
    ∃ xs, KT H kvs xs ∧ h.DictOfH (tupleKind (mixKind P w)) a xs := by
  obtain ⟨z, y, xs, r, o, es, ep, h1, h2, h3, h4, h5⟩ := (show ObjOk P w H h a (.dT kvs) from rd_of ok e)
  refine ⟨z, y, xs, r, o, es, ep, h1, h2, h3, h4, fun x hx => ?_, h5⟩
  have all : ∀ {l : List (List Key × V)} {m : List (List Key × Addr × Value)}, KT H l m → ∀ x ∈ m, (tupleKind (mixKind P w)).is h x.1 x.2.1 := by
    intro l m q
    induction q with
    | nil => intro x hx; exact nomatch hx
    | @cons p q ps qs hq t ih =>
      intro x hx
      rcases List.mem_cons.mp hx with e | hx
      · subst e
        exact key_of ok (by rw [← hq.1]; exact hq.2.1)
      · exact ih x hx
  exact all r x hx
theorem dt_of {kvs : List (List Key × V)} (ok : HOk P w H h) (e : H a = some (.dT kvs)) : kvs.length ≤ sizeLine ∧ (a == sysModules) = false ∧
    ∃ xs, KT H kvs xs ∧ h.DictOfH (tupleKind (mixKind P w)) a xs := dt_rd ok (.inl e)
end

/-- what the dict at a holds at the key y -/
def DGet (H : Hp) (a : Addr) (y : V) (r : Option V) : Prop :=
  (∃ kvs k, Rd H a (.dK kvs) ∧ y = kV k ∧ r = valV kvs k) ∨ ∃ kvs k b, Rd H a (.dT kvs) ∧ y = .ref b ∧ H b = some (.tup (k.map kV)) ∧ r = valV kvs k
/-- the heap behind a[y] = v -/
def DPut (H : Hp) (a : Addr) (y v : V) (H' : Hp) : Prop :=
  (∃ kvs k, H a = some (.dK kvs) ∧ y = kV k ∧ kvs.length < sizeLine ∧ H' = upd H a (.dK (putK kvs k v))) ∨
  ∃ kvs k b, H a = some (.dT kvs) ∧ y = .ref b ∧ H b = some (.tup (k.map kV)) ∧ kvs.length < sizeLine ∧ H' = upd H a (.dT (putK kvs k v))
theorem DGet.k {H : Hp} {a : Addr} {kvs : List (Key × V)} {k : Key} (e : H a = some (.dK kvs)) : DGet H a (kV k) (valV kvs k) := .inl ⟨kvs, k, .inl e, rfl, rfl⟩
theorem DGet.t {H : Hp} {a b : Addr} {kvs : List (List Key × V)} {k : List Key} (e : H a = some (.dT kvs)) (eb : H b = some (.tup (k.map kV))) : DGet H a (.ref b) (valV kvs k) := .inr ⟨kvs, k, b, .inl e, rfl, eb, rfl⟩
theorem DPut.k {H : Hp} {a : Addr} {kvs : List (Key × V)} {k : Key} {v : V} (e : H a = some (.dK kvs)) (hl : kvs.length < sizeLine) : DPut H a (kV k) v (upd H a (.dK (putK kvs k v))) := .inl ⟨kvs, k, e, rfl, hl, rfl⟩
theorem DPut.t {H : Hp} {a b : Addr} {kvs : List (List Key × V)} {k : List Key} {v : V} (e : H a = some (.dT kvs)) (eb : H b = some (.tup (k.map kV))) (hl : kvs.length < sizeLine) :
    DPut H a (.ref b) v (upd H a (.dT (putK kvs k v))) := .inr ⟨kvs, k, b, e, rfl, eb, hl, rfl⟩


section
variable {X : Cx} {pins : List (Addr × Obj)} {σ : St} {H : Hp} {s : Shared} {a : Addr} {y v : V} {u r : Value} {o : Option V} {A : Around} {E : Value → Shared → Prop}

theorem Inv.big (I : Inv X pins σ H s) : sysModules < s.heap.objs.size := by
  have h : mainGlobals < s.heap.objs.size := (I.mod.glob.keeps I.bk).lt
  exact Nat.lt_trans (by decide) h

/-- d[y], there -/
theorem d_getItem {Q : Value → Shared → Prop} (hu : A.units + 1 < cLine) (I : Inv X pins σ H s) (g : DGet H a y (some v)) (ry : RelV y u) (h : ∀ w' s', Inv X pins σ H s' → RelV v w' → Q w' s') :
    wpAny (model X.prog X.w) A (getItem (.ref a) u) Q E s := by
  rcases g with ⟨kvs, k, e, ey, l⟩ | ⟨kvs, k, b, e, ey, eb, l⟩
  · subst ey
    obtain ⟨z, hd, vs, rel, dd⟩ := dk_rd I.hok e
    obtain ⟨w', hw, rw'⟩ := RelO.some_of (v := v) (o := valueAt vs k) (by rw [l]; exact rel.val k)
    exact wpAny_getItem_of (kV_is ry) dd.mapOf hw (h w' _ (I.tok _) rw')
  · subst ey
    cases (show u = Value.ref b from ry)
    obtain ⟨z, hd, xs, rel, dd⟩ := dt_rd I.hok e
    obtain ⟨w', hw, rw'⟩ := RelO.some_of (v := v) (o := (atKey xs k).map (·.2)) (by rw [l]; exact rel.val k)
    obtain ⟨p, hp, hp2⟩ := Option.map_eq_some_iff.mp hw
    refine wpAny_getItem_heap (tupleKind_room_in1 hu) (key_of I.hok eb) dd hp ?_
    rw [hp2]
    exact h w' _ (I.tok _) rw'
theorem d_notIn {Q : Value → Shared → Prop} (hu : A.units + 1 < cLine) (I : Inv X pins σ H s) (g : DGet H a y o) (ry : RelV y u) (h : ∀ s', Inv X pins σ H s' → Q (.bool (!o.isSome)) s') :
    wpAny (model X.prog X.w) A (compareOp .NotIn u (.ref a)) Q E s := by
  rcases g with ⟨kvs, k, e, ey, l⟩ | ⟨kvs, k, b, e, ey, eb, l⟩
  · subst ey
    obtain ⟨z, hd, vs, rel, dd⟩ := dk_rd I.hok e
    refine wpAny_notIn_of (kV_is ry) hd dd.mapOf ?_
    rw [← (rel.val k).isSome_eq, ← l]
    exact h _ (I.tok _)
  · subst ey
    cases (show u = Value.ref b from ry)
    obtain ⟨z, hd, xs, rel, dd⟩ := dt_rd I.hok e
    refine wpAny_notIn_heap (tupleKind_room_in1 hu) (key_of I.hok eb) hd dd ?_
    have q := (rel.val k).isSome_eq
    rw [Option.isSome_map] at q
    rw [← q, ← l]
    exact h _ (I.tok _)
/-- a dict's object is replaced -/
theorem d_write {h' : Heap} {t' : Nat} {ob : HO} (I : Inv X pins σ H s) (mu : Mut (H a)) (hs : Heap.SameBut a s.heap h') (he : ∃ q, h'.get? a = some q) (new : ObjOk X.prog X.w (upd H a ob) h' a ob) :
    Inv X pins σ (upd H a ob) { s with heap := h', toks := t' } :=
  I.write (x := a) (e := a) mu (.inl rfl) (fun b q hb z => (hs.2 b hb).trans z) he new
theorem dk_new {P : Program} {w : World} {H' : Hp} {h' : Heap} {kvs : List (Key × V)} {vs : List (Key × Value)} (z : kvs.length ≤ sizeLine) (hd : (a == sysModules) = false) (rel : KV kvs vs) (dd : h'.DictOf (mixKind P w) a vs) :
    ObjOk P w H' h' a (.dK kvs) := ⟨z, hd, vs, rel, dd⟩
/-- d[y] = v -/
theorem d_setItem {H' : Hp} {Q : Unit → Shared → Prop} (hu : A.units + 1 < cLine) (I : Inv X pins σ H s) (g : DPut H a y v H') (ry : RelV y u) (rv : RelV v r) (h : ∀ s', Inv X pins σ H' s' → Q () s') :
    wpAny (model X.prog X.w) A (setItem (.ref a) u r) Q E s := by
  rcases g with ⟨kvs, k, e, ey, l, eH⟩ | ⟨kvs, k, b, e, ey, eb, l, eH⟩
  · subst ey eH
    obtain ⟨z, hd, vs, rel, dd⟩ := dk_of I.hok e
    have hz : vs.length ≤ sizeLine := by rw [← rel.length]; exact z
    have hl : (putK kvs k v).length ≤ sizeLine := by have := length_putK kvs k v; omega
    refine wpAny_setItem_pairs (hsz := hz) (kV_is ry) dd fun h' dd' hs => h _ ?_
    have he : ∃ q, h'.get? a = some q := let ⟨q, _, _, hq, _⟩ := dd'; ⟨q, hq⟩
    exact d_write I (by rw [e]; exact True.intro) hs he (dk_new hl hd (rel.put k rv) dd')
  · subst ey eH
    cases (show u = Value.ref b from ry)
    obtain ⟨z, hd, xs, rel, dd⟩ := dt_of I.hok e
    have hz : xs.length ≤ sizeLine := by rw [← Paired.length rel]; exact z
    have hl : (putK kvs k v).length ≤ sizeLine := by have := length_putK kvs k v; omega
    refine wpAny_setItem_heap (hsz := hz) (tupleKind_room_in1 hu) (key_of I.hok eb) dd fun h' dd' hs => h _ ?_
    obtain ⟨q, es, ep, hq, h2, h3, h4, _, h5⟩ := dd'
    refine d_write I (by rw [e]; exact True.intro) hs ⟨q, hq⟩ ⟨hl, hd, _, (rel.put k eb rv).keeps fun c ys ec => ?_, q, es, ep, hq, h2, h3, h4, h5⟩
    rw [upd_ne (ne_of ec e (fun z => nomatch z))]
    exact ec
end

section
variable {X : Cx} {pins : List (Addr × Obj)} {σ : St} {H : Hp} {s : Shared} {a : Addr} {kvs : List (Key × V)} {k : Key} {u : Value} {A : Around} {E : Value → Shared → Prop}
end


/-! ### readings and rules -/
/-- the element of a subscription, not a slice -/
def NoSl (i : Expr) : Prop := ∀ ov iv, subscripted i false ov iv = operate [ov, iv] (getItem ov iv)
theorem subD_of {prog : Program} {w : World} {A : Around} {E : Value → Shared → Prop} {s : Shared} {env : Env} {value slice : Expr} {pos : Pos} {T id : String} {Q : Value → Shared → Prop}
    (hl : typeLookup (.type T) "__getitem__" = pure (some (.builtin id))) (hs : NoSl slice)
    (h : wpAny (model prog w) A (eval value env) (fun o s₁ => wpAny (model prog w) A (eval slice env) (fun i s₂ => s₂.TypeIs o T ∧ wpAny (model prog w) A (getItem o i) Q E s₂) E s₁) E s) :
    wpAny (model prog w) A (eval (.Subscript value slice pos) env) Q E s := by
  refine Subscript_ (wpAny_mono h (fun o s₁ h₁ => wpAny_mono h₁ (fun i s₂ h₂ => ?_) fun _ _ x => x) fun _ _ x => x)
  obtain ⟨hT, h₂⟩ := h₂
  unfold subscriptTail
  refine wpAny_bind ?_
  rw [getitemInPython_of_ne hT.not_modules]
  refine wpAny_bind (wpAny_specialOf hT hl ?_)
  have fin : wpAny (model prog w) A (subscripted slice false o i) (fun r s₃ => wpAny (model prog w) A (letTemporaryGo value o r >>= fun _ => pure r) Q E s₃) E s₂ := by
    rw [hs o i]
    exact wpAny_operating (wpAny_mono h₂ (fun r s₃ h₃ => wpAny_bind (wpAny_letTemporaryGo (wpAny_pure h₃))) fun _ _ x => x)
  first
    | exact wpAny_pure (wpAny_bind fin)
    | exact wpAny_bind (wpAny_pure (wpAny_bind fin))
    | exact wpAny_bind fin

theorem dict_typeIs {X : Cx} {pins : List (Addr × Obj)} {σ : St} {H : Hp} {s : Shared} {a : Addr} {y : V} {o : Option V} (I : Inv X pins σ H s) (g : DGet H a y o) : s.TypeIs (.ref a) "dict" := by
  rcases g with ⟨kvs, k, e, _, _⟩ | ⟨kvs, k, b, e, _, _, _⟩
  · obtain ⟨_, _, vs, _, dd⟩ := dk_rd I.hok e
    exact dd.typeIs
  · obtain ⟨_, _, xs, _, dd⟩ := dt_rd I.hok e
    exact dd.typeIs
/-- d[y] -/
def tDGet (td ty : TE) : TE := fun σ H Q => td σ H fun x H1 => ty σ H1 fun y H2 => ∃ a v, x = .ref a ∧ DGet H2 a y (some v) ∧ Q v H2
def tDNotIn (ty td : TE) : TE := fun σ H Q => ty σ H fun y H1 => td σ H1 fun x H2 => ∃ a o, x = .ref a ∧ DGet H2 a y o ∧ Q (.bl (!o.isSome)) H2
/-- d[y] = v -/
def sDPut (td ty tv : TE) : TS := fun D σ H => tv σ H fun v H1 => td σ H1 fun x H2 => ty σ H2 fun y H3 => ∃ a H4, x = .ref a ∧ DPut H3 a y v H4 ∧ D.nx σ H4
section
variable {X : Cx} {o i e value : Expr} {pos pos' tpos : Pos} {td ty tv : TE}
theorem pe_dget (hu : X.A.units + 1 < cLine) (ho : PE X o td) (hi : PE X i ty) (hs : NoSl i) : PE X (.Subscript o i pos) (tDGet td ty) := by
  intro pins s σ H Q I h
  refine subD_of PySem.F.slot_dict_getitem.lookup hs (thn (ho pins s σ H _ I h) fun u s1 ⟨x, H1, I1, rx, q1⟩ => thn (hi pins s1 σ H1 _ I1 q1) fun iv s2 ⟨y, H2, I2, ry, a, v, ex, g, q2⟩ => ?_)
  subst ex
  obtain rfl : u = Value.ref a := rx
  exact ⟨dict_typeIs I2 g, d_getItem hu I2 g ry fun w' s3 I3 rw' => ⟨v, H2, I3, rw', q2⟩⟩
theorem pc_dnotin (hu : X.A.units + 1 < cLine) (hi : PE X i ty) (ho : PE X o td) : PC X .NotIn i o (tDNotIn ty td) := by
  intro pins s σ H Q I h
  refine thn (hi pins s σ H _ I h) fun iv s1 ⟨y, H1, I1, ry, q1⟩ => thn (ho pins s1 σ H1 _ I1 q1) fun u s2 ⟨x, H2, I2, rx, a, ov, ex, g, q2⟩ => ?_
  subst ex
  obtain rfl : u = Value.ref a := rx
  exact d_notIn hu I2 g ry fun s3 I3 => ⟨.bl (!ov.isSome), H2, I3, rfl, q2⟩
theorem ps_dput (hu : X.A.units + 1 < cLine) (ho : PE X o td) (hi : PE X i ty) (hv : PE X value tv) (hs : swapsWith value (some (.Subscript o i pos')) pos.line X.env = pure false) :
    PS X (.Assign [.Subscript o i pos'] value pos) (sDPut td ty tv) := by
  intro pins s σ H D I h
  refine wpAny_Assign_Subscript (thn (hv pins s σ H _ I h) fun r s1 ⟨v, H1, I1, rv, q1⟩ => thn (ho pins s1 σ H1 _ I1 q1) fun u s2 ⟨x, H2, I2, rx, q2⟩ => thn (hi pins s2 σ H2 _ I2 q2) fun iv s3 ⟨y, H3, I3, ry, a, H4, ex, g, q3⟩ => ?_) hs
  subst ex
  obtain rfl : u = Value.ref a := rx
  exact d_setItem hu I3 g ry rv fun s4 I4 => ⟨σ, H4, I4, q3⟩
end


/-! ### displays -/
theorem dt_empty {P : Program} {w : World} {H : Hp} (h : Heap) (hb : sysModules < h.objs.size) : ObjOk P w H (h.push { cls := .type "dict", data := .dict #[] }) h.objs.size (.dT []) :=
  ⟨Nat.zero_le _, beq_eq_false_iff_ne.mpr (Ne.symm (Nat.ne_of_lt hb)), [], .nil, _, #[], 0, Heap.get?_push_size _ rfl, ⟨rfl, rfl, rfl⟩, rfl, rfl, List.nodup_nil⟩
def tDNewT : TE := fun _ H Q => ∀ p, H p = none → Q (.ref p) (upd H p (.dT []))
section
variable {X : Cx} {pos : Pos}
theorem pe_dnewT : PE X (.Dict [] [] pos) tDNewT := fun pins s σ H Q I h =>
  wpAny_Dict_empty ⟨.ref s.heap.objs.size, _, I.laid (a := s.heap.objs.size) (o := .dT []) (t' := s.toks) (fun _ _ q => Heap.get?_push_of_some _ q) (Nat.le_refl _) (dt_empty s.heap I.big), rfl, h _ (I.hok.fresh (Nat.le_refl _))⟩
end

/-! ### methods -/
/-- a method call o.m(e) of a built-in, with one argument: what must be seen of the text -/
structure M1 (X : Cx) (o : Expr) (m : Str) (apos : Pos) (e : Expr) (cpos : Pos) : Prop where
  base : attributeBase o m X.env (eval o X.env) = eval o X.env
  few : ((backTo cpos (starEach [e] X.env)).all (fun x => !x.1) && (backToKw cpos (keywordEach [] X.env)).all (fun x => x.1.isSome)
    && decide (([e] : List Expr).length + ([] : List Keyword).length + (if ([] : List Keyword).isEmpty then 0 else 1) < 30)) = true
  line : (apos.endLine == cpos.line) = true
  trees : backTo cpos (starEach [e] X.env) = [(false, eval e X.env)]
structure M2 (X : Cx) (o : Expr) (m : Str) (apos : Pos) (e f : Expr) (cpos : Pos) : Prop where
  base : attributeBase o m X.env (eval o X.env) = eval o X.env
  few : ((backTo cpos (starEach [e, f] X.env)).all (fun x => !x.1) && (backToKw cpos (keywordEach [] X.env)).all (fun x => x.1.isSome)
    && decide (([e, f] : List Expr).length + ([] : List Keyword).length + (if ([] : List Keyword).isEmpty then 0 else 1) < 30)) = true
  line : (apos.endLine == cpos.line) = true
  trees : backTo cpos (starEach [e, f] X.env) = [(false, eval e X.env), (false, eval f X.env)]

section
variable {X : Cx} {pins : List (Addr × Obj)} {σ : St} {H : Hp} {s : Shared} {a : Addr} {y d : V} {u r : Value} {o : Option V} {A : Around} {E : Value → Shared → Prop}
end

section
variable {X : Cx} {o e f : Expr} {apos cpos : Pos} {td ty tx : TE}
end

/-! ### dict(d): a copy -/
section
variable {X : Cx} {pins : List (Addr × Obj)} {σ : St} {H : Hp} {s : Shared} {a : Addr} {kvs : List (Key × V)} {A : Around} {E : Value → Shared → Prop}
end


section
variable {X : Cx} {pins : List (Addr × Obj)} {σ : St} {H : Hp} {s : Shared} {a : Addr} {y : V} {u : Value} {A : Around} {E : Value → Shared → Prop}
end
end L2
namespace L2
open PySem PySem.Spec PyProof.Rows
/-! ### a dict's pairs: keys that differ -/
section
variable {κ : Type} [DecidableEq κ]
end
end L2
end
section
/-! sorted(d) of a dict with int keys. -/
namespace L2
open PySem PySem.Spec PyProof.Rows
set_option maxHeartbeats 4000000
set_option maxRecDepth 100000
set_option Elab.async false
set_option linter.unusedVariables false
section
variable {X : Cx}
end
end L2
end
section
/-! isinstance(x, (list, tuple)); zip of two tuples or two lists, whichever. -/
namespace L2
open PySem PySem.Spec PyProof.Rows
set_option maxHeartbeats 4000000
set_option maxRecDepth 100000
set_option Elab.async false
set_option linter.unusedVariables false
section
variable {X : Cx} {pins : List (Addr × Obj)} {σ : St} {H : Hp} {s : Shared} {A : Around} {E : Value → Shared → Prop} {Q : Value → Shared → Prop}
def seqT (T : String) : Bool := T == "list" || T == "tuple"
theorem isi_many {x : V} {u : Value} {T : String} {p : Addr} {its : List Value} {b : Bool} (I : Inv X pins σ H s) (rx : RelV x u) (hk : Kn H x T) (hp : IsTup s.heap p its.toArray) (e : PySem.W.kitAny X.K (.type T) its = some b)
    (h : ∀ tk, Q (.bool b) { s with toks := tk }) : wpAny (model X.prog X.w) A (call (.builtin "isinstance") [u, .ref p]) Q E s := by
  obtain ⟨⟨c, dd, da, sl⟩, ho, hc, n, hd⟩ := hp
  simp only at hc hd
  subst hc hd
  cases hk with
  | non => cases (show u = Value.none from rx); exact PySem.W.kia_tup PySem.W.kitx_none I.kIn True.intro ho e (fun z => nomatch z) h
  | bl y => cases (show u = Value.bool y from rx); exact PySem.W.kia_tup PySem.W.kitx_bool I.kIn True.intro ho e (fun z => nomatch z) h
  | int i => obtain ⟨t, q⟩ := (show ∃ t, u = Value.int i t from rx); cases q; exact PySem.W.kia_tup PySem.W.kitx_int I.kIn True.intro ho e (fun z => nomatch z) h
  | str y => obtain ⟨t, q⟩ := (show ∃ t, u = Value.str y t from rx); cases q; exact PySem.W.kia_tup PySem.W.kitx_str I.kIn True.intro ho e (fun z => nomatch z) h
  | @lst a xs ea =>
    cases (show u = Value.ref a from rx)
    obtain ⟨_, _, n, _, h1⟩ := (show ObjOk X.prog X.w H s.heap a (.lst xs) from I.hok a _ ea)
    exact PySem.W.kia_tup PySem.W.kitx_list I.kIn ⟨_, h1, rfl⟩ ho e (fun z => nomatch z) h
  | @tup a xs ea =>
    cases (show u = Value.ref a from rx)
    obtain ⟨_, _, _, o, h1, hc, _⟩ := (show ObjOk X.prog X.w H s.heap a (.tup xs) from I.hok a _ ea)
    exact PySem.W.kia_tup PySem.W.kitx_tuple I.kIn ⟨o, h1, hc⟩ ho e (fun z => nomatch z) h
  | @dK a kvs ea =>
    cases (show u = Value.ref a from rx)
    obtain ⟨_, _, _, _, m⟩ := (show ObjOk X.prog X.w H s.heap a (.dK kvs) from I.hok a _ ea)
    exact PySem.W.kia_tup PySem.W.kitx_dict I.kIn m.typeIs ho e (fun z => nomatch z) h
theorem any_seq {K : PySem.W.Frag} {H : Hp} {x : V} {T : String} (h : Kn H x T) : PySem.W.kitAny K (.type T) [.type "list", .type "tuple"] = some (seqT T) ∧ PySem.W.kitAny K (.type T) [.type "tuple", .type "list"] = some (seqT T) := by
  cases h <;> exact ⟨rfl, rfl⟩
end
section
variable {X : Cx}
theorem call_isiT : CallR X (.builtin "isinstance") (fun xs H Q => ∃ x T p, xs = [x, .ref p] ∧ Kn H x T ∧ (H p = some (.tup [.ty "list", .ty "tuple"]) ∨ H p = some (.tup [.ty "tuple", .ty "list"])) ∧ Q (.bl (seqT T)) H) := by
  intro pins s σ H xs us Q I r h
  obtain ⟨x, T, p, rfl, hk, hp, q⟩ := h
  obtain ⟨u, c, rfl, rx, rc⟩ := vals2 r
  cases (show c = Value.ref p from rc)
  have two : ∀ (U W : String), H p = some (.tup [.ty U, .ty W]) → IsTup s.heap p [Value.type U, Value.type W].toArray := fun U W e => by
    obtain ⟨_, its, rv, ht⟩ := (show ObjOk X.prog X.w H s.heap p (.tup [.ty U, .ty W]) from I.hok p _ e)
    obtain ⟨a, b, rfl, ra, rb⟩ := vals2 rv
    cases (show a = Value.type U from ra)
    cases (show b = Value.type W from rb)
    exact ht
  rcases hp with hp | hp
  · exact isi_many I rx hk (two _ _ hp) (any_seq hk).1 fun tk => ⟨.bl (seqT T), H, I.tok tk, rfl, q⟩
  · exact isi_many I rx hk (two _ _ hp) (any_seq hk).2 fun tk => ⟨.bl (seqT T), H, I.tok tk, rfl, q⟩
def iZipE (K : PySem.W.Frag) (ta : TA) : TI := fun σ H R => ta σ H fun vs H1 => ∃ t l m xs ys, vs = [.ref l, .ref m] ∧ SqK t K H1 l xs ∧ SqK t K H1 m ys ∧ R (Itz t K l m) H1
theorem pi_zipE {es : List Expr} {k0 : Nat} {tp : Pos} {a b : Expr} {ta : TA} {p pos : Pos} (hg : Gl X "zip") (hm : X.mg "zip" = none) (ha : PA X [a, b] ta) (hs : starEach [a, b] X.env = [(false, eval a X.env), (false, eval b X.env)] := by rfl) (hs2 : starEach [b] X.env = [(false, eval b X.env)] := by rfl) :
    PI X (.Tuple es k0 tp) (.Call (.Name "zip" p) [a, b] [] pos) (iZipE X.K ta) := by
  intro pins s σ H R I h
  refine Call_ (ld_blt I hg hm boot_zip (PyProof.Rows.callWith_type1 (thn (ha pos pins s σ H _ I h) fun us s1 ⟨vs, H1, I1, r1, q1⟩ => ?_) (by rw [hs, hs2]) (by rw [hs2]; rfl)))
  obtain ⟨t, l, m, xs, ys, e, hl, hm', q⟩ := q1
  subst e
  obtain ⟨u, u', rfl, ru, ru'⟩ := vals2 r1
  cases (show u = Value.ref l from ru)
  cases (show u' = Value.ref m from ru')
  obtain ⟨its, _, ⟨ol, eol, _⟩, _⟩ := I1.sqk hl
  obtain ⟨jts, _, ⟨om, eom, _⟩, _⟩ := I1.sqk hm'
  have ll : l < s1.heap.objs.size := Heap.lt_size eol
  have lm : m < s1.heap.objs.size := Heap.lt_size eom
  have fin : ∀ h' : Heap, IsZip h' (s1.heap.objs.size + 4) (s1.heap.objs.size + 2) (s1.heap.objs.size + 3) .none → IsPair h' (s1.heap.objs.size + 2) (.ref s1.heap.objs.size) (.ref (s1.heap.objs.size + 1)) →
      IsPair h' (s1.heap.objs.size + 3) .none .none → ItAt t s1.heap.objs.size l 0 h' → ItAt t (s1.heap.objs.size + 1) m 0 h' → (∀ c o, s1.heap.get? c = some o → h'.get? c = some o) →
      wpAny (model X.prog X.w) X.A (pyIter (.ref (s1.heap.objs.size + 4))) (PIE X pins σ (.Tuple es k0 tp) R) X.xe { s1 with heap := h' } := fun h' z1 z2 z3 z4 z5 kp => by
    have I2 : Inv X pins σ H1 { s1 with heap := h' } := I1.kept (t' := s1.toks) kp
    refine wpAny_pyIter_zip z1 ⟨s1.heap.objs.size + 4, [s1.heap.objs.size + 4, s1.heap.objs.size + 2, s1.heap.objs.size + 3, s1.heap.objs.size, s1.heap.objs.size + 1], _, _, H1, rfl, I2,
      turn_zip (t := t) (l := l) (m := m) (apart_nat _ (a := 2) (b := 4) (by decide)) (apart_nat _ (a := 3) (b := 4) (by decide)) (apart_nat _ (a := 0) (b := 4) (by decide)) (apart_nat _ (a := 1) (b := 4) (by decide)) (apart_nat _ (a := 2) (b := 3) (by decide)) (apart_nat _ (a := 2) (b := 0) (by decide)) (apart_nat _ (a := 2) (b := 1) (by decide)) (apart_nat _ (a := 3) (b := 0) (by decide)) (apart_nat _ (a := 3) (b := 1) (by decide)) (apart_nat _ (a := 0) (b := 1) (by decide)) (fun z => ?_) (fun z => ?_), ⟨z1, z2, ⟨_, _, z3⟩, z4, z5⟩, fun c hc => ?_, q⟩
    · simp only [List.mem_cons, List.not_mem_nil, or_false] at z; exact not_fresh5 ll z
    · simp only [List.mem_cons, List.not_mem_nil, or_false] at z; exact not_fresh5 lm z
    · have hcs : s1.heap.objs.size ≤ c := by simp only [List.mem_cons, List.not_mem_nil, or_false] at hc; exact fresh5 hc
      exact I1.fpOk hcs (I1.hok.fresh hcs)
  cases t
  · obtain ⟨its, _, pl, _⟩ := I1.list (show SqL X.K H1 l xs from hl)
    obtain ⟨jts, _, pm, _⟩ := I1.list (show SqL X.K H1 m ys from hm')
    exact call_zip_2 pl.isList pm.isList fun h' z1 z2 z3 z4 z5 _ kp => fin h' z1 z2 z3 z4 z5 kp
  · obtain ⟨its, _, pl, _⟩ := I1.tuple (show SqT X.K H1 l xs from hl)
    obtain ⟨jts, _, pm, _⟩ := I1.tuple (show SqT X.K H1 m ys from hm')
    exact zip_tups pl pm fun h' z1 z2 z3 z4 z5 kp => fin h' z1 z2 z3 z4 z5 kp
theorem items_zipL {K : PySem.W.Frag} {a b : Addr} {xs ys : List V} {H1 : Hp} (h : H1 a = some (.lst xs)) (h' : H1 b = some (.lst ys)) (i : Nat) (H : Hp) (s : Same H1 H) :
    (i < min xs.length ys.length → (Itz false K a b).go i H ∧ ∀ v H2, (Itz false K a b).yld i H v H2 → Same H H2 ∧ ∃ p x y, v = .ref p ∧ H2 p = some (.tup [x, y]) ∧ xs[i]? = some x ∧ ys[i]? = some y) ∧ (min xs.length ys.length ≤ i → (Itz false K a b).stop i H) := by
  have q : SqK false K H a xs := SqL.of (s _ _ h)
  have q' : SqK false K H b ys := SqL.of (s _ _ h')
  refine ⟨fun hi => ⟨⟨xs, ys, xs[i]'(by omega), ys[i]'(by omega), q, q', List.getElem?_eq_getElem (by omega), List.getElem?_eq_getElem (by omega)⟩, fun v H2 ⟨p, x, y, e1, e2, e3, e4, e5⟩ => ?_⟩, fun hi => ⟨xs, ys, q, q', ?_⟩⟩
  · subst e3
    exact ⟨same_new e2 _, p, x, y, e1, upd_same, e4 xs q, e5 ys q'⟩
  · by_cases hx : xs.length ≤ i
    · exact .inl (List.getElem?_eq_none hx)
    · exact .inr (List.getElem?_eq_none (by omega))
/-- two things that are the same, n deep -/
def Sm (H : Hp) : Nat → V → V → Prop
  | 0, x, y => (x = y ∧ ((∃ i, x = .int i) ∨ (∃ b, x = .bl b) ∨ (∃ z, x = .str z) ∨ x = .non))
  | n + 1, x, y => (x = y ∧ ((∃ i, x = .int i) ∨ (∃ b, x = .bl b) ∨ (∃ z, x = .str z) ∨ x = .non)) ∨
    ∃ (a b : Addr) (xs ys : List V), x = .ref a ∧ y = .ref b ∧ ((H a = some (.tup xs) ∧ H b = some (.tup ys)) ∨ (H a = some (.lst xs) ∧ H b = some (.lst ys))) ∧ xs.length = ys.length ∧ xs.length ≤ 1000 ∧
      ∀ (i : Nat) (u v : V), xs[i]? = some u → ys[i]? = some v → Sm H n u v
theorem Sm.same {H H' : Hp} (s : Same H H') : ∀ {n : Nat} {x y : V}, Sm H n x y → Sm H' n x y
  | 0, _, _, h => h
  | n + 1, x, y, h => by
    rcases h with h | ⟨a, b, xs, ys, e1, e2, e3, e4, e5, e6⟩
    · exact .inl h
    · refine .inr ⟨a, b, xs, ys, e1, e2, ?_, e4, e5, fun i u v hu hv => (e6 i u v hu hv).same s⟩
      rcases e3 with ⟨p, q⟩ | ⟨p, q⟩
      · exact .inl ⟨s _ _ p, s _ _ q⟩
      · exact .inr ⟨s _ _ p, s _ _ q⟩
end
end L2
end
section
/-! dict(l) of a list of pairs. -/
namespace L2
open PySem PySem.Spec PyProof.Rows
set_option maxHeartbeats 4000000
set_option maxRecDepth 100000
set_option Elab.async false
set_option linter.unusedVariables false
section
variable {prog : Program} {w : World} {A : Around} {R : Result → Shared → Prop}
/-- how far the loop has come -/
structure DL (prog : Program) (w : World) (l it d : Addr) (vs : List Value) (kvs : List (Key × Value)) (i : Nat) (h : Heap) : Prop where
  po : h.IsListIter it l i
  ls : h.IsList l vs.toArray
  dt : h.DictOf (mixKind prog w) d (kvs.take i)
  pr : ∀ (j : Nat) (v : Value), vs[j]? = some v → ∃ (p : Addr) (k : Key) (key x : Value), v = Value.ref p ∧ IsTup h p #[key, x] ∧ kvs[j]? = some (k, x) ∧ (mixKind prog w).is k key = true
theorem cls_ne {h : Heap} {a b : Addr} {o o' : Obj} {T U : String} (e : h.get? a = some o) (e' : h.get? b = some o') (c : o.cls = .type T) (c' : o'.cls = .type U) (n : T ≠ U) : a ≠ b := fun z => by
  rw [z, e'] at e
  cases e
  rw [c] at c'
  injection c' with z
  exact n z
theorem DL.ne {l it d : Addr} {vs : List Value} {kvs : List (Key × Value)} {i : Nat} {h : Heap} (D : DL prog w l it d vs kvs i h) : d ≠ it := by
  obtain ⟨o, es, ep, ho, ⟨hc, _⟩, _⟩ := D.dt
  obtain ⟨o', ho', hc', _⟩ := D.po
  exact cls_ne ho ho' hc hc' (by decide)
end
end L2
end
section
namespace L2
open PySem PySem.Spec PyProof.Rows
set_option maxHeartbeats 4000000
set_option maxRecDepth 100000
set_option Elab.async false
set_option linter.unusedVariables false
section
variable {prog : Program} {w : World} {A : Around} {s : Shared} {R : Result → Shared → Prop}
end
section
variable {X : Cx}
end
end L2
end
section
/-! Ball by ball: each to the next box that is empty. -/
namespace BB
/-- the first place from x on that is none of R's -/
def nx : Int → List Int → Int
  | x, [] => x
  | x, q :: R => if q < x then nx x R else if q = x then nx (x + 1) R else x
theorem nx_past {x q : Int} {R : List Int} (h : q < x) : nx x (q :: R) = nx x R := by
  show (if q < x then nx x R else _) = _
  rw [if_pos h]
theorem nx_ge : ∀ (R : List Int) (x : Int), x ≤ nx x R
  | [], x => Int.le_refl x
  | q :: R, x => by
    unfold nx
    split
    · exact nx_ge R x
    · split
      · have := nx_ge R (x + 1); omega
      · exact Int.le_refl x
theorem nx_not : ∀ (R : List Int) (x : Int), R.Pairwise (· < ·) → nx x R ∉ R
  | [], _, _ => by simp
  | q :: R, x, up => by
    obtain ⟨u1, u2⟩ := List.pairwise_cons.mp up
    unfold nx
    split
    · intro z
      rcases List.mem_cons.mp z with z | z
      · have := nx_ge R x; omega
      · exact nx_not R x u2 z
    · split
      · intro z
        rcases List.mem_cons.mp z with z | z
        · have := nx_ge R (x + 1); omega
        · exact nx_not R (x + 1) u2 z
      · intro z
        rcases List.mem_cons.mp z with z | z
        · omega
        · have := u1 x z; omega
theorem nx_mid : ∀ (R : List Int) (x y : Int), x ≤ y → y < nx x R → y ∈ R
  | [], x, y, h1, h2 => by unfold nx at h2; omega
  | q :: R, x, y, h1, h2 => by
    unfold nx at h2
    split at h2
    · exact List.mem_cons_of_mem _ (nx_mid R x y h1 h2)
    · split at h2
      · by_cases e : y = q
        · rw [e]; exact List.mem_cons_self ..
        · exact List.mem_cons_of_mem _ (nx_mid R (x + 1) y (by omega) h2)
      · omega
/-- the first n places from b on that are none of R's -/
def emp : Nat → Int → List Int → List Int
  | 0, _, _ => []
  | n + 1, b, R => nx b R :: emp n (nx b R + 1) R
/-- and the one behind them -/
def gy : Nat → Int → List Int → Int
  | 0, b, R => nx b R
  | n + 1, b, R => gy n (nx b R + 1) R
theorem emp_gy : ∀ (n : Nat) (b : Int) (R : List Int), emp (n + 1) b R = emp n b R ++ [gy n b R]
  | 0, _, _ => rfl
  | n + 1, b, R => by
    show nx b R :: emp (n + 1) (nx b R + 1) R = nx b R :: (emp n (nx b R + 1) R ++ [gy n (nx b R + 1) R])
    rw [emp_gy n]
theorem gy_ge : ∀ (n : Nat) (b : Int) (R : List Int), b ≤ gy n b R
  | 0, b, R => nx_ge R b
  | n + 1, b, R => by
    have := gy_ge n (nx b R + 1) R
    have := nx_ge R b
    show b ≤ gy n (nx b R + 1) R
    omega
theorem gy_not : ∀ (n : Nat) (b : Int) (R : List Int), R.Pairwise (· < ·) → gy n b R ∉ R
  | 0, b, R, up => nx_not R b up
  | n + 1, b, R, up => gy_not n _ R up
theorem emp_lt : ∀ (n : Nat) (b : Int) (R : List Int) (x : Int), x ∈ emp n b R → b ≤ x ∧ x < gy n b R
  | 0, _, _, x, h => by cases h
  | n + 1, b, R, x, h => by
    have g := gy_ge n (nx b R + 1) R
    have e := nx_ge R b
    rcases List.mem_cons.mp (show x ∈ nx b R :: emp n (nx b R + 1) R from h) with rfl | h
    · exact ⟨e, show nx b R < gy n (nx b R + 1) R by omega⟩
    · have := emp_lt n _ R x h
      exact ⟨by omega, this.2⟩
theorem gy_mid : ∀ (n : Nat) (b : Int) (R : List Int) (z : Int), b ≤ z → z < gy n b R → z ∈ R ∨ z ∈ emp n b R
  | 0, b, R, z, h1, h2 => .inl (nx_mid R b z h1 h2)
  | n + 1, b, R, z, h1, h2 => by
    by_cases c : z < nx b R
    · exact .inl (nx_mid R b z h1 c)
    · by_cases d : z = nx b R
      · exact .inr (by rw [d]; exact List.mem_cons_self ..)
      · rcases gy_mid n (nx b R + 1) R z (by omega) h2 with h | h
        · exact .inl h
        · exact .inr (List.mem_cons_of_mem _ h)
theorem emp_past {p : Int} {r : List Int} : ∀ (n : Nat) (z : Int), p < z → emp n z (p :: r) = emp n z r
  | 0, _, _ => rfl
  | n + 1, z, h => by
    show nx z (p :: r) :: emp n (nx z (p :: r) + 1) (p :: r) = nx z r :: emp n (nx z r + 1) r
    rw [nx_past h, emp_past n _ (by have := nx_ge r z; omega)]
theorem emp_on {p : Int} {r : List Int} : ∀ (n : Nat), emp n p (p :: r) = emp n (p + 1) r
  | 0 => rfl
  | n + 1 => by
    have e : nx p (p :: r) = nx (p + 1) r := by
      show (if p < p then nx p r else if p = p then nx (p + 1) r else p) = _
      rw [if_neg (by omega), if_pos rfl]
    show nx p (p :: r) :: emp n (nx p (p :: r) + 1) (p :: r) = nx (p + 1) r :: emp n (nx (p + 1) r + 1) r
    rw [e, emp_past n _ (by have := nx_ge r (p + 1); omega)]
theorem emp_cut {p : Int} {r : List Int} : ∀ (L : Nat) (box : Int), box ≤ p → emp L box (p :: r) = row box (min L (p - box).toNat) ++ emp (L - min L (p - box).toNat) (p + 1) r
  | 0, box, _ => by rw [Nat.zero_min]; rfl
  | L + 1, box, h => by
    by_cases c : box = p
    · subst c
      rw [Int.sub_self, show min (L + 1) (0 : Int).toNat = 0 from Nat.min_zero _, row_zero, List.nil_append, Nat.sub_zero]
      exact emp_on (L + 1)
    · have e : nx box (p :: r) = box := by
        unfold nx
        rw [if_neg (by omega), if_neg (by omega)]
      show nx box (p :: r) :: emp L (nx box (p :: r) + 1) (p :: r) = _
      rw [e, emp_cut L (box + 1) (by omega)]
      have em : min (L + 1) (p - box).toNat = min L (p - (box + 1)).toNat + 1 := by omega
      rw [em, row_succ, show L + 1 - (min L (p - (box + 1)).toNat + 1) = L - min L (p - (box + 1)).toNat by omega]
      rfl
theorem emp_nil : ∀ (L : Nat) (box : Int), emp L box [] = row box L
  | 0, _ => rfl
  | L + 1, box => by
    rw [row_succ]
    show box :: emp L (box + 1) [] = _
    rw [emp_nil L]
/-- two rising lists with the same members are one -/
theorem rise_ext : ∀ {x y : List Int}, x.Pairwise (· < ·) → y.Pairwise (· < ·) → (∀ a, a ∈ x ↔ a ∈ y) → x = y
  | [], [], _, _, _ => rfl
  | [], b :: y, _, _, h => absurd ((h b).mpr (List.mem_cons_self ..)) (by simp)
  | a :: x, [], _, _, h => absurd ((h a).mp (List.mem_cons_self ..)) (by simp)
  | a :: x, b :: y, hx, hy, h => by
    obtain ⟨x1, x2⟩ := List.pairwise_cons.mp hx
    obtain ⟨y1, y2⟩ := List.pairwise_cons.mp hy
    have e : a = b := by
      rcases List.mem_cons.mp ((h a).mp (List.mem_cons_self ..)) with z | z
      · exact z
      · rcases List.mem_cons.mp ((h b).mpr (List.mem_cons_self ..)) with w | w
        · exact w.symm
        · have := y1 a z; have := x1 b w; omega
    subst e
    congr 1
    refine rise_ext x2 y2 fun c => ⟨fun hc => ?_, fun hc => ?_⟩
    · rcases List.mem_cons.mp ((h c).mp (List.mem_cons_of_mem _ hc)) with z | z
      · have := x1 c hc; omega
      · exact z
    · rcases List.mem_cons.mp ((h c).mpr (List.mem_cons_of_mem _ hc)) with z | z
      · have := y1 c hc; omega
      · exact z
theorem mem_row {lo : Int} {n : Nat} {x : Int} (h : x ∈ row lo n) : lo ≤ x ∧ x < lo + (n : Int) := by
  unfold row at h
  obtain ⟨k, hk, rfl⟩ := List.mem_map.mp h
  have := List.mem_range.mp hk
  omega
/-- how the boxes stand while the balls R are still to go -/
structure At (z : Nat) (all R bh ks : List Int) (L : Nat) (box : Int) : Prop where
  eq : bh ++ sp z L box R = step z all
  cnt : bh.length + L + R.length = z
  lo : ∀ x ∈ bh, x < box
  ge : ∀ x ∈ R, box ≤ x
  up : R.Pairwise (· < ·)
  mem : ∀ x, x ∈ ks ↔ x ∈ bh ∨ x ∈ emp L box R ∨ x ∈ R
theorem At.go {z : Nat} {all r bh ks ks' : List Int} {L : Nat} {box p : Int} (h : At z all (p :: r) bh ks L box)
    (hk : ∀ x, x ∈ ks' ↔ (x ∈ ks ∧ x ≠ p) ∨ x = gy (L - min L (p - box).toNat) (p + 1) r) :
    ∃ bh' L', At z all r bh' ks' L' (p + 1) := by
  obtain ⟨u1, u2⟩ := List.pairwise_cons.mp h.up
  have hb := h.ge p (List.mem_cons_self ..)
  have hc := h.cnt
  rw [List.length_cons] at hc
  have lz : L - min L (p - box).toNat < z := by omega
  have e := h.eq
  unfold sp at e
  rw [if_pos lz, ← List.append_assoc] at e
  refine ⟨bh ++ row box (min L (p - box).toNat), L - min L (p - box).toNat + 1, e, ?_, fun x hx => ?_, fun x hx => ?_, u2, fun x => ?_⟩
  · rw [List.length_append, show (row box (min L (p - box).toNat)).length = min L (p - box).toNat by unfold row; rw [List.length_map, List.length_range]]
    omega
  · rcases List.mem_append.mp hx with w | w
    · have := h.lo x w; omega
    · have := mem_row w; omega
  · have := u1 x hx; omega
  · rw [hk x, h.mem x, emp_cut L box hb, emp_gy]
    have np : ∀ w, w ∈ bh ++ row box (min L (p - box).toNat) → w ≠ p := fun w hw => by
      rcases List.mem_append.mp hw with v | v
      · have := h.lo w v; omega
      · have := mem_row v; omega
    have ne : ∀ w, w ∈ emp (L - min L (p - box).toNat) (p + 1) r → w ≠ p := fun w hw => by have := emp_lt _ _ _ _ hw; omega
    have nr : ∀ w, w ∈ r → w ≠ p := fun w hw => by have := u1 w hw; omega
    simp only [List.mem_append, List.mem_cons, List.mem_singleton, List.not_mem_nil, or_false]
    constructor
    · rintro (⟨h1 | (h1 | h1) | h1 | h1, h2⟩ | h1)
      · exact .inl (.inl h1)
      · exact .inl (.inr h1)
      · exact .inr (.inl (.inl h1))
      · exact absurd h1 h2
      · exact .inr (.inr h1)
      · exact .inr (.inl (.inr h1))
    · rintro ((h1 | h1) | (h1 | h1) | h1)
      · exact .inl ⟨.inl h1, np x (List.mem_append_left _ h1)⟩
      · exact .inl ⟨.inr (.inl (.inl h1)), np x (List.mem_append_right _ h1)⟩
      · exact .inl ⟨.inr (.inl (.inr h1)), ne x h1⟩
      · exact .inr h1
      · exact .inl ⟨.inr (.inr (.inr h1)), nr x h1⟩
/-- from the ball's next box on, all is taken up to the one it goes to, and that is free -/
theorem At.here {z : Nat} {all r bh ks : List Int} {L : Nat} {box p : Int} (h : At z all (p :: r) bh ks L box) (x : Int) (hx : p + 1 ≤ x) (hx2 : x ≤ gy (L - min L (p - box).toNat) (p + 1) r) :
    x ∈ ks ↔ x < gy (L - min L (p - box).toNat) (p + 1) r := by
  obtain ⟨u1, u2⟩ := List.pairwise_cons.mp h.up
  have hb := h.ge p (List.mem_cons_self ..)
  rw [h.mem x, emp_cut L box hb]
  simp only [List.mem_append, List.mem_cons]
  constructor
  · rintro (h1 | (h1 | h1) | h1 | h1)
    · have := h.lo x h1; omega
    · have := mem_row h1; omega
    · exact (emp_lt _ _ _ _ h1).2
    · omega
    · by_cases c : x = gy (L - min L (p - box).toNat) (p + 1) r
      · exact absurd (by rw [← c]; exact h1) (gy_not (L - min L (p - box).toNat) (p + 1) r u2)
      · omega
  · intro h1
    rcases gy_mid _ _ _ _ hx h1 with w | w
    · exact .inr (.inr (.inr w))
    · exact .inr (.inl (.inr w))
theorem At.done {z : Nat} {all bh ks : List Int} {L : Nat} {box : Int} (h : At z all [] bh ks L box) (x : Int) : x ∈ ks ↔ x ∈ step z all := by
  rw [h.mem x, ← h.eq, emp_nil]
  show x ∈ bh ∨ x ∈ row box L ∨ x ∈ [] ↔ x ∈ bh ++ row box L
  rw [List.mem_append]
  constructor
  · rintro (h1 | h1 | h1)
    · exact .inl h1
    · exact .inr h1
    · cases h1
  · rintro (h1 | h1)
    · exact .inl h1
    · exact .inr (.inl h1)
theorem At.start {all ks : List Int} (up : all.Pairwise (· < ·)) (hk : ∀ x, x ∈ ks ↔ x ∈ all) : At all.length all all [] ks 0 (all.headD 0) := by
  refine ⟨rfl, by simp, fun x hx => (by cases hx), fun x hx => ?_, up, fun x => ?_⟩
  · cases all with
    | nil => cases hx
    | cons p r =>
      rcases List.mem_cons.mp hx with rfl | hx
      · exact Int.le_refl _
      · exact Int.le_of_lt ((List.pairwise_cons.mp up).1 x hx)
  · rw [hk x]
    show x ∈ all ↔ x ∈ [] ∨ x ∈ [] ∨ x ∈ all
    simp
end BB
end
section
/-! Comprehensions of new tuples; a dict's int keys. -/
namespace L2
open PySem PySem.Spec PyProof.Rows
set_option maxHeartbeats 4000000
set_option Elab.async false
set_option linter.unusedVariables false
structure Nb3 (mg : Str → Option Value) : Prop extends Nb2 mg where
  dict : mg "dict" = none
  sorted : mg "sorted" = none
theorem hu1 {k : Nat} {A : Around} (r : Room k A) : A.units + 1 < cLine := by have := r.units; omega
theorem comp_tups {J : It} {g : TG} {te : TE} {Q : VK} {D : Addr} {H1 : Hp} {σ0 : St} (n : Nat) (hn : n ≤ sizeLine) (f : Nat → List V) (Sg : St → Prop) (itm : Nat → Hp → V → Prop) (hD : H1 D = none) (s0 : Sg σ0)
    (items : ∀ i H, Same H1 H → (i < n → J.go i H ∧ ∀ x H2, J.yld i H x H2 → Same H H2 ∧ itm i H2 x) ∧ (n ≤ i → J.stop i H))
    (step : ∀ i x σ' H, i < n → Same H1 H → itm i H x → Sg σ' → ∀ R : St → V → Hp → Prop, (∀ σ3 p H5, Sg σ3 → Same H H5 → H5 p = some (.tup (f i)) → R σ3 (.ref p) H5) → g x σ' H fun σ3 H3 => te σ3 H3 (R σ3))
    (fin : ∀ H' ys, Same H1 H' → H' D = some (.lst ys) → ys.length = n → (∀ (j : Nat) (y : V), ys[j]? = some y → ∃ p, y = .ref p ∧ H' p = some (.tup (f j))) → Q (.ref D) H') :
    cmpW J g tYes te Q D σ0 H1 := by
  refine ⟨fun i m σ H => m = n - i ∧ i ≤ n ∧ Sg σ ∧ Same H1 H ∧ ∃ ys, H D = some (.lst ys) ∧ ys.length = i ∧ ∀ (j : Nat) (y : V), ys[j]? = some y → ∃ p, y = .ref p ∧ H p = some (.tup (f j)), ⟨n, by omega, Nat.zero_le _, s0, (Same.refl H1).upd_free hD _, [], upd_same, rfl, fun j y h => by cases h⟩, ?_⟩
  rintro i m σ H ⟨rfl, hi, hs, sm, ys, hd, hl, hy⟩
  by_cases hlt : i < n
  · obtain ⟨go, yl⟩ := (items i H sm).1 hlt
    refine .inr ⟨go, fun x H2 y => ?_⟩
    obtain ⟨s2, im⟩ := yl x H2 y
    have key := step i x σ H2 hlt (sm.trans s2) im hs (fun σ3 y H5 => ∃ ys, H5 D = some (.lst ys) ∧ ys.length < sizeLine ∧ ∃ m', m' < n - i ∧ (m' = n - (i + 1) ∧ i + 1 ≤ n ∧ Sg σ3 ∧ Same H1 (upd H5 D (.lst (ys ++ [y]))) ∧ ∃ zs, (upd H5 D (.lst (ys ++ [y]))) D = some (.lst zs) ∧ zs.length = i + 1 ∧ ∀ (j : Nat) (u : V), zs[j]? = some u → ∃ p, u = .ref p ∧ (upd H5 D (.lst (ys ++ [y]))) p = some (.tup (f j)))) fun σ3 p H5 g3 s5 ep => by
      refine ⟨ys, s5 _ _ (s2 _ _ hd), by omega, n - (i + 1), by omega, rfl, by omega, g3, (sm.trans (s2.trans s5)).upd_free hD _, ys ++ [.ref p], upd_same, by rw [List.length_append, List.length_singleton, hl], fun j u hu => ?_⟩
      have dd := s5 _ _ (s2 _ _ hd)
      by_cases c : j < ys.length
      · rw [List.getElem?_append_left c] at hu
        obtain ⟨p', e1, e2⟩ := hy j u hu
        have e3 := s5 _ _ (s2 _ _ e2)
        exact ⟨p', e1, by rw [upd_ne (ne_of e3 dd (by intro z; cases z))]; exact e3⟩
      · have ej : j = i := by
          have := (List.getElem?_eq_some_iff.mp hu).1
          rw [List.length_append, List.length_singleton] at this
          omega
        subst ej
        rw [List.getElem?_append_right (by omega), hl, Nat.sub_self] at hu
        have eu : u = .ref p := by simpa using hu.symm
        exact ⟨p, eu, by rw [upd_ne (ne_of ep dd (by intro z; cases z))]; exact ep⟩
    have e : (fun (σ3 : St) (H3 : Hp) => te σ3 H3 fun y H5 => ∃ ys, H5 D = some (.lst ys) ∧ ys.length < sizeLine ∧ ∃ m', m' < n - i ∧ (m' = n - (i + 1) ∧ i + 1 ≤ n ∧ Sg σ3 ∧ Same H1 (upd H5 D (.lst (ys ++ [y]))) ∧ ∃ zs, (upd H5 D (.lst (ys ++ [y]))) D = some (.lst zs) ∧ zs.length = i + 1 ∧ ∀ (j : Nat) (u : V), zs[j]? = some u → ∃ p, u = .ref p ∧ (upd H5 D (.lst (ys ++ [y]))) p = some (.tup (f j)))) =
        fun (σ3 : St) (H3 : Hp) => tYes σ3 H3 fun ok H4 => if ok = true then te σ3 H4 fun y H5 => ∃ ys, H5 D = some (.lst ys) ∧ ys.length < sizeLine ∧ ∃ m', m' < n - i ∧ (m' = n - (i + 1) ∧ i + 1 ≤ n ∧ Sg σ3 ∧ Same H1 (upd H5 D (.lst (ys ++ [y]))) ∧ ∃ zs, (upd H5 D (.lst (ys ++ [y]))) D = some (.lst zs) ∧ zs.length = i + 1 ∧ ∀ (j : Nat) (u : V), zs[j]? = some u → ∃ p, u = .ref p ∧ (upd H5 D (.lst (ys ++ [y]))) p = some (.tup (f j)))
          else ∃ m', m' < n - i ∧ (m' = n - (i + 1) ∧ i + 1 ≤ n ∧ Sg σ3 ∧ Same H1 H4 ∧ ∃ zs, H4 D = some (.lst zs) ∧ zs.length = i + 1 ∧ ∀ (j : Nat) (u : V), zs[j]? = some u → ∃ p, u = .ref p ∧ H4 p = some (.tup (f j))) := by
      funext σ3 H3
      unfold tYes
      dsimp only
      rw [if_pos rfl]
    rw [← e]
    exact key
  · have e : i = n := by omega
    subst e
    exact .inl ⟨(items i H sm).2 (Nat.le_refl _), fin H ys sm hd hl hy⟩
/-! a dict's int keys -/
end L2
end
section
/-! Lists of ints held side by side, as long as one another. -/
namespace L2
open PySem PySem.Spec PyProof.Rows
set_option maxHeartbeats 4000000
set_option Elab.async false
set_option linter.unusedVariables false
section
variable {X : Cx}
end
end L2
end
section
/-! How many balls a carrier takes. -/
namespace BB
def tkn (z : Nat) : Nat → Int → List Int → Nat
  | _, _, [] => 0
  | L, box, p :: r => if L - min L (p - box).toNat < z then tkn z (L - min L (p - box).toNat + 1) (p + 1) r + 1 else tkn z (L - min L (p - box).toNat) (p + 1) r
theorem tkn_gap {z L : Nat} {lo : Int} {R : List Int} (h : ∀ p ∈ R, lo + 1 ≤ p) : tkn z L lo R = tkn z (L - 1) (lo + 1) R := by
  cases R with
  | nil => rfl
  | cons p r =>
    have hp := h p (List.mem_cons_self ..)
    have e : L - min L (p - lo).toNat = L - 1 - min (L - 1) (p - (lo + 1)).toNat := by omega
    unfold tkn
    rw [e]
theorem tkn_free {z : Nat} {box box' : Int} : ∀ {r : List Int}, tkn z 0 box r = tkn z 0 box' r
  | [] => rfl
  | p :: r => by
    unfold tkn
    rw [Nat.zero_min, Nat.zero_min]
def taken (z : Nat) (r : List Int) : Nat := tkn z 0 (r.headD 0) r
/-- box by box: what lies there, what is carried, what is still to come -/
structure By (z : Nat) (all R fo : List Int) (L t : Nat) (x : Int) : Prop where
  eq : fo ++ sp z L x R = step z all
  tk : t + tkn z L x R = taken z all
  ge : L ≠ 0 → ∀ p ∈ R, x ≤ p
  up : R.Pairwise (· < ·)
  le : L ≤ z
theorem By.start (z : Nat) {all : List Int} (up : all.Pairwise (· < ·)) (x : Int) : By z all all [] 0 0 x :=
  ⟨by rw [List.nil_append]; exact sp_free, by rw [Nat.zero_add]; exact tkn_free, fun h => absurd rfl h, up, Nat.zero_le z⟩
theorem By.take {z : Nat} {all r fo : List Int} {L t : Nat} {x : Int} (h : By z all (x :: r) fo L t x) (hl : L ≠ z) : By z all r fo (L + 1) (t + 1) (x + 1) := by
  obtain ⟨u1, u2⟩ := List.pairwise_cons.mp h.up
  have lz : L < z := by have := h.le; omega
  have e := h.eq
  have k := h.tk
  unfold sp at e
  unfold tkn at k
  have em : min L (x - x).toNat = 0 := by rw [Int.sub_self]; exact Nat.min_zero L
  rw [em, row_zero, List.nil_append, Nat.sub_zero, if_pos lz] at e
  rw [em, Nat.sub_zero, if_pos lz] at k
  exact ⟨e, by omega, fun _ p hp => by have := u1 p hp; omega, u2, lz⟩
theorem By.lay {z : Nat} {all R fo : List Int} {L t : Nat} {x : Int} (h : By z all R fo L t x) (hl : 0 < L) (hx : x ∉ R) : By z all R (fo ++ [x]) (L - 1) t (x + 1) := by
  have hg : ∀ p ∈ R, x + 1 ≤ p := fun p hp => by
    have := h.ge (by omega) p hp
    have ne : p ≠ x := fun z => hx (by rw [← z]; exact hp)
    omega
  have e := h.eq
  have k := h.tk
  rw [sp_gap hg, if_pos hl] at e
  rw [tkn_gap hg] at k
  exact ⟨by rw [List.append_assoc]; exact e, k, fun _ => hg, h.up, by have := h.le; omega⟩
theorem By.done {z : Nat} {all fo : List Int} {t : Nat} {x : Int} (h : By z all [] fo 0 t x) : fo = step z all ∧ t = taken z all := by
  have e := h.eq
  have k := h.tk
  constructor
  · rw [← e]
    show fo = fo ++ row x 0
    rw [row_zero, List.append_nil]
  · rw [← k]
    rfl
end BB
end
section
/-! l != []. -/
namespace L2
open PySem PySem.Spec PyProof.Rows
set_option maxHeartbeats 4000000
set_option Elab.async false
set_option linter.unusedVariables false
section
variable {X : Cx}
def rNeNil (K : PySem.W.Frag) : R2 := fun x y H Q => ∃ (a b : Addr) (xs : List V), x = .ref a ∧ y = .ref b ∧ SqL K H a xs ∧ SqL K H b [] ∧ Q (.bl (!xs.isEmpty)) H
theorem op_neNil (hu : X.A.units < cLine) : OpR X (compareOp .NotEq) (rNeNil X.K) := by
  intro pins s σ H x y v u Q I rx ry h
  obtain ⟨a, b, xs, rfl, rfl, ha, hb, q⟩ := h
  cases rx
  cases ry
  obtain ⟨its, r1, p1, _⟩ := I.list ha
  obtain ⟨its2, r2, p2, _⟩ := I.list hb
  cases r2
  cases r1 with
  | nil =>
    refine of_rcne' (SeqAt.RcNeAt.lists (e := fun _ => true) p1.isList p2.isList rfl hu (fun j h1 => absurd h1 (by simp))) ?_
    exact ⟨.bl false, H, I, rfl, q⟩
  | cons h t =>
    refine of_rcne' (SeqAt.RcNeAt.lists_lengths p1.isList p2.isList (by simp) hu) ?_
    exact ⟨.bl true, H, I, rfl, q⟩
end
end L2
end
section
/-! f-strings of texts and small ints. -/
namespace L2
open PySem PySem.Spec PyProof.Rows
set_option maxHeartbeats 4000000
set_option Elab.async false
set_option linter.unusedVariables false
abbrev TJ := Str → St → Hp → VK → Prop
section
variable {X : Cx} {e : Expr} {es : List Expr} {te : TE} {t : TJ} {pos : Pos}
end
end L2
end
section
/-! An exception in flight, by the layer's own heap: what the library keeps of a base, kept of a base that is chosen for each step: the heap itself without the exception, its traceback and the frames. -/
namespace L2
open PySem PySem.Spec PyProof.Rows
set_option maxHeartbeats 4000000
set_option Elab.async false
set_option linter.unusedVariables false

/-! ### a heap without some of its objects -/
def lessOf : List Addr → Heap → Heap
  | [], h => h
  | a :: S, h => (lessOf S h).update a fun o => { o with data := .freed }
theorem less_out : ∀ {S : List Addr} {h : Heap} {b : Addr}, b ∉ S → (lessOf S h).get? b = h.get? b
  | [], _, _, _ => rfl
  | a :: S, h, b, hb => by
    show ((lessOf S h).update a _).get? b = _
    rw [Heap.get?_update_other _ _ fun z => hb (by rw [z]; exact List.mem_cons_self), less_out fun z => hb (List.mem_cons_of_mem _ z)]
/-! ### in flight -/
/-- the exception at e with its traceback at T -/
def Trc (h : Heap) (e T : Addr) (cls : Value) : Prop :=
  ∃ oe vs oT ts a0, h.get? e = some oe ∧ oe.cls = cls ∧ vs[0]? = some a0 ∧ oe.data = .fields vs ∧ vs[1]? = some (.ref T) ∧ T ≠ e ∧ h.get? T = some oT ∧ oT.data = .fields ts ∧ ts[3]? = some .none
/-- behind a call that raised: outer the callers, H and s ahead of the call -/
structure Fly (P : Program) (w : World) (outer : List Env) (H : Hp) (s : Shared) (H' : Hp) (e : Addr) (cls : Value) (s' : Shared) : Prop where
  os : s'.os = s.os
  bare : AllBare s'.gens
  un : Un (frs outer) [] H H' s.heap s'.heap
  hok : HOk P w H' s'.heap
  new : s.heap.get? e = none
  free : H' e = none
  tr : ∃ T, Trc s'.heap e T cls ∧ s.heap.get? T = none ∧ H' T = none
def CXF (P : Program) (w : World) : CXT := fun outer H s E v s' => ∃ e cls H', v = .ref e ∧ Fly P w outer H s H' e cls s' ∧ E cls (some e) H'

section
variable {P : Program} {w : World} {base : Heap} {env : Env} {outer : List Env} {L : Addr}
/-- what leaving a frame has done to a heap: all but S is as it was, of what has no fields at most the slots changed -/
structure Gone (S : List Addr) (h h' : Heap) : Prop where
  keep : ∀ b o, b ∉ S → h.get? b = some o → h'.get? b = some o
  slot : h.UpToSlots h'
theorem Gone.hok {S : List Addr} {H : Hp} {h h' : Heap} (g : Gone S h h') (hS : ∀ b ∈ S, H b = none) (x : HOk P w H h) : HOk P w H h' := fun b u e => by
  have ne : ∀ c u, H c = some u → c ∉ S := fun c u q z => by rw [hS c z] at q; cases q
  refine (x b u e).stay (fun c v hc q => g.keep c v ?_ q) (fun _ q => q) fun _ _ q => q
  rcases hc with rfl | hc
  · exact ne _ _ e
  · exact ne _ _ hc
end
/-! ### out of a def's frame -/
section
variable {X : Cx} {pins : List (Addr × Obj)} {σ : St} {H H' : Hp} {s s' : Shared} {e : Addr} {cls : Value} {Q : Unit → Shared → Prop} {E : Value → Shared → Prop}
/-- a def's body, no comprehension's block -/
structure Own (X : Cx) : Prop where
  stk : X.stack = X.env :: X.outer
  frm : X.env.frame = some X.env.locals
  ex : X.ex = []
end
end L2
end
section
/-! raise C(..), C an own class below ValueError; defs that may raise. -/
namespace L2
open PySem PySem.Spec PyProof.Rows
set_option maxHeartbeats 4000000
set_option Elab.async false
set_option linter.unusedVariables false

abbrev mroV : List Value := [.type "ValueError", .type "Exception", .type "BaseException", .type "object"]
/-- an own class below ValueError, behind the top: bm the classes above it -/
structure Exc (K : PySem.W.Frag) (C : Addr) (bm : List Value) : Prop where
  ob : ∃ (nm q : Str) (N : Addr) (bs : List Value) (hdct : Bool) (sn : List Str) (sub : List Value) (ab : Bool) (col : Option Bool) (dd : Option Addr) (k0 k1 k2 k3 k5 : Option Value),
    K.lookup C = some (excClassObj nm q C N bs bm hdct sn sub ab col dd k0 k1 k2 k3 k5 "ValueError.__new__") ∧ PySem.W.nsOkIn K N = true ∧ PySem.W.nsIn K N "__init__" = some none
  tl : PySem.W.tailIn K mroV bm = true
  bb : bm.contains (.type "BaseException") = true
  vb : bm.contains (.type "ValueError") = true

/-! ### contexts of defs that may raise -/
section
variable {P : Program} {w : World} {K : PySem.W.Frag} {mg : Str → Option Value} {base : Heap} {N : List Str} {qual : Str} {scope : Scope} {f : Addr} {cd : Value} {A : Around} {outer : List Env} {s : Shared} {H : Hp} {E : XK}
/-- what a def's body wants of an exception is that it leaves the frame -/
structure Lvs (X : Cx) (E : XK) : Prop where
  own : Own X
  xe : ∀ e s', wpAny (model X.prog X.w) X.A (leaving X.env e) (fun _ s'' => CXF X.prog X.w X.outer X.H₀ X.s₀ E e s'') (fun e' s'' => CXF X.prog X.w X.outer X.H₀ X.s₀ E e' s'') s' → X.xe e s'
end
section
variable {X : Cx} {E E' : XK}
end
end L2
end
section
/-! An exception that is caught in a def's frame. -/
namespace L2
open PySem PySem.Spec PyProof.Rows
set_option maxHeartbeats 4000000
set_option maxRecDepth 100000
set_option Elab.async false
set_option linter.unusedVariables false
section
variable {X : Cx} {pins : List (Addr × Obj)} {σ : St} {H H' : Hp} {s s' : Shared} {e T : Addr} {cls : Value} {S : List Addr} {h' : Heap}
variable {A : Around} {M : Model} {E : Value → Shared → Prop} {Q : Unit → Shared → Prop}
end
end L2
end
section
/-! Own classes held against an exception. -/
namespace L2
open PySem PySem.Spec PyProof.Rows
set_option maxHeartbeats 4000000
set_option maxRecDepth 100000
set_option Elab.async false
set_option linter.unusedVariables false
section
variable {M : Model} {A : Around} {E : Value → Shared → Prop} {h : Heap} {g : Array GenState} {d : Drawn} {t : Nat} {os : OsState} {e C C0 : Addr} {oe : Obj} {Q : Bool → Shared → Prop}
variable {nm q : Str} {N : Addr} {bs bm : List Value} {hdct : Bool} {sn : List Str} {sub : List Value} {ab : Bool} {col : Option Bool} {dd : Option Addr} {k0 k1 k2 k3 k5 : Option Value} {ni : String}
variable {nm' q' : Str} {N' : Addr} {bs' bm' : List Value} {hdct' : Bool} {sn' : List Str} {sub' : List Value} {ab' : Bool} {col' : Option Bool} {dd' : Option Addr} {k0' k1' k2' k3' k5' : Option Value} {ni' : String}
end
section
variable {prog : Program} {w : World} {A : Around} {E : Value → Shared → Prop} {K : PySem.W.Frag} {h : Heap} {g : Array GenState} {d : Drawn} {t : Nat} {os : OsState} {e C : Addr} {dc : Option Addr} {vs : Array Value} {sl : Array (Option Value)}
end
end L2
end
section
/-! isinstance of an exception; try .. except C as e. -/
namespace L2
open PySem PySem.Spec PyProof.Rows
set_option maxHeartbeats 4000000
set_option maxRecDepth 100000
set_option Elab.async false
set_option linter.unusedVariables false
/-- what the tables tell of an own class below ValueError -/
structure ExcF (K : PySem.W.Frag) (C : Addr) (bm : List Value) : Prop extends Exc K C bm where
  l1 : PySem.W.findIn K (.ref C) "__getattribute__" = some (some (.builtin "BaseException.__getattribute__"))
  l2 : PySem.W.findIn K (.ref C) "__class__" = some (some (.builtin "object.__class__"))
  l3 : PySem.W.findIn K (.ref C) "__getattr__" = some none
  l4 : PySem.W.subIn K (.ref C) (.type "BaseException") = some true
  l5 : PySem.W.subIn K (.ref C) (.type "object") = some true
section
variable {X : Cx}
end
end L2
end
section
/-! try: .. except C as e: .. -/
namespace L2
open PySem PySem.Spec PyProof.Rows
set_option maxHeartbeats 4000000
set_option maxRecDepth 100000
set_option Elab.async false
set_option linter.unusedVariables false
/-- within an except suite -/
abbrev Cx.held (X : Cx) (A : Around) (E : Value → Shared → Prop) : Cx := { X with A := A, calm := false, xe := E }
section
variable {X : Cx} {pins : List (Addr × Obj)} {σ : St} {H H' : Hp} {s s' : Shared} {e C : Addr} {cls : Value} {A : Around} {E : Value → Shared → Prop}
theorem Inv.held (I : Inv X pins σ H s) (hA : A.frames = some X.stack) : Inv (X.held A E) pins σ H s :=
  ⟨⟨I.ok.mod, I.ok.kind, I.ok.glob, I.ok.blt, I.ok.above, I.ok.inj, I.ok.has, I.ok.cab, fun z => absurd z Bool.false_ne_true, hA, I.ok.stk, I.ok.exf, I.ok.bs, I.ok.bsz, I.ok.noex, I.ok.exfs, I.ok.funs, I.ok.frf⟩,
    I.os, I.bare, I.base, I.loc, I.cell, I.free, I.freeC, I.pin, I.hok, I.len⟩
end
/-- a suite that may raise: how it ends, and how an exception leaves it -/
abbrev TB := St → Hp → (Hp → Prop) → XK → Prop
section
variable {X : Cx} {body suite : List Stmt} {b₀ : Stmt} {tb : TB} {ts : TS} {x n : Str} {np hp pos : Pos} {C0 : Addr} {bm0 : List Value} {k : Nat}
end
end L2
end
section
/-! Things that lie fixed; a thing that runs when called; `call()` as the body of a try. -/
namespace L2
open PySem PySem.Spec PyProof.Rows
set_option maxHeartbeats 4000000
set_option maxRecDepth 100000
set_option Elab.async false
set_option linter.unusedVariables false
/-- the object o at a, for good -/
def Fz (a : Addr) (o : Obj) : HO := .frz o (.ext fun h => h.get? a = some o)
end L2
end
section
/-! A lambda without parameters runs. -/
namespace L2
open PySem PySem.Spec PyProof.Rows
set_option maxHeartbeats 4000000
set_option maxRecDepth 100000
set_option Elab.async false
set_option linter.unusedVariables false
/-- the cells that it holds, over base: the names N with the values σ -/
structure Cap (base : Heap) (scope : Scope) (cl : List (Str × Addr)) (N : List Str) (σ : St) : Prop where
  inj : ∀ x y c, cl.lookup x = some c → cl.lookup y = some c → x = y
  has : ∀ x, scope.names.lookup x = some .free → ∃ c, cl.lookup x = some c
  cell : ∀ x c, cl.lookup x = some c → ∃ v, base.IsCell c v
  val : ∀ (i : Nat) (x : Str) (v : V), N[i]? = some x → σ[i]? = some (some v) → scope.names.lookup x = some .free ∧ ∃ u c, RelV v u ∧ cl.lookup x = some c ∧ base.IsCell c (some u)
  len : σ.length = N.length
structure LamS (scope : Scope) : Prop where
  kind : scope.kind = .function
  co : scope.isCoroutine = false
  gen : scope.isGenerator = false
  nocell : ∀ y ∈ scope.names, y.2 ≠ .cell
section
variable {P : Program} {w : World} {K : PySem.W.Frag} {mg : Str → Option Value} {base : Heap} {N : List Str} {qual : Str} {scope : Scope} {cl : List (Str × Addr)} {f : Addr} {cd : Value} {A : Around} {outer : List Env} {s : Shared} {H : Hp} {E : XK} {σ : St}
end
end L2
end
section
/-! A lambda is made and handed on. -/
namespace L2
open PySem PySem.Spec PyProof.Rows
set_option maxHeartbeats 4000000
set_option maxRecDepth 100000
set_option Elab.async false
set_option linter.unusedVariables false
/-- the table at T: each code object in it is known, by the name q -/
def Tab (q : Str) (H : Hp) (T : Addr) : Prop := ∃ l : List (Pos × Addr), H T = some (.tbl (triples l).toArray) ∧ ∀ x ∈ l, ∃ oc vs t, H x.2 = some (Fz x.2 oc) ∧ oc.data = .fields vs ∧ vs[1]? = some (.str q t)
theorem Tab.same {q : Str} {H H' : Hp} {T : Addr} (x : Tab q H T) (s : Same H H') : Tab q H' T :=
  let ⟨l, e, h⟩ := x
  ⟨l, s _ _ e, fun y hy => let ⟨oc, vs, t, a, b⟩ := h y hy; ⟨oc, vs, t, s _ _ a, b⟩⟩
theorem Tab.empty {q : Str} {H : Hp} {T : Addr} (e : H T = some (.tbl #[])) : Tab q H T := ⟨[], e, fun _ h => nomatch h⟩
abbrev lamQ (X : Cx) : Str := X.env.qual ++ "<lambda>"
structure LamAt (X : Cx) (T : Addr) (params : Arguments) (body : Expr) (scope : Scope) (H : Hp) (f : Addr) (H' : Hp) : Prop where
  new : H f = none
  grow : ∀ b u, b ≠ T → H b = some u → H' b = some u
  tab : Tab (lamQ X) H' T
  ob : ∃ cl pm c' ctv oc vs t, H' f = some (Fz f (PySem.W.kla_obj "<lambda>" (lamQ X) params body scope cl pm c' ctv)) ∧ H' c' = some (Fz c' oc) ∧ oc.data = .fields vs ∧ vs[1]? = some (.str (lamQ X) t) ∧
    (∀ x c, cl.lookup x = some c → X.env.cells.lookup x = some c) ∧ ∀ x, (x, NameKind.free) ∈ scope.names → ∃ c, cl.lookup x = some c
section
variable {X : Cx} {T c : Addr} {params : Arguments} {body : Expr} {scope : Scope} {pos : Pos}
end
end L2
end
section
/-! f(lambda: ..), f one that calls what it is given: over a greater base, in which the cells lie. -/
namespace L2
open PySem PySem.Spec PyProof.Rows
set_option maxHeartbeats 4000000
set_option maxRecDepth 100000
set_option Elab.async false
set_option linter.unusedVariables false
open Classical in
noncomputable def outOf (base : Heap) (cl : List (Str × Addr)) (h : Heap) : List Addr := (List.range h.objs.size).filter fun a => decide (base.get? a = none ∧ ∀ x, cl.lookup x ≠ some a)
noncomputable def baseOf (base : Heap) (cl : List (Str × Addr)) (h : Heap) : Heap := lessOf (outOf base cl h) h
section
variable {base h : Heap} {cl : List (Str × Addr)} {b : Addr} {o : Obj}
theorem base_in (e : h.get? b = some o) (hi : (∃ u, base.get? b = some u) ∨ ∃ x, cl.lookup x = some b) : (baseOf base cl h).get? b = some o := by
  unfold baseOf
  rw [less_out]
  · exact e
  · intro z
    have z := (List.mem_filter.mp z).2
    have z : base.get? b = none ∧ ∀ x, cl.lookup x ≠ some b := by simpa using z
    rcases hi with ⟨u, q⟩ | ⟨x, q⟩
    · rw [z.1] at q; cases q
    · exact z.2 x q
end
section
variable {X : Cx} {pins : List (Addr × Obj)} {σ : St} {H : Hp} {s : Shared} {cl : List (Str × Addr)} {N : List Str} {js : List Nat} {scope : Scope}
theorem Inv.cap (I : Inv X pins σ H s) (B : Blk X.env.scope X.N N 0 js scope) (c1 : ∀ x c, cl.lookup x = some c → X.env.cells.lookup x = some c) (c2 : ∀ x, (x, NameKind.free) ∈ scope.names → ∃ c, cl.lookup x = some c) :
    Cap (baseOf X.base cl s.heap) scope cl N (inner 0 js σ) := by
  have cell : ∀ {x : Str} {c : Addr} {v : Option Value}, cl.lookup x = some c → s.heap.IsCell c v → (baseOf X.base cl s.heap).IsCell c v := fun {x c v} e ⟨o, ho, hd⟩ => ⟨o, base_in ho (.inr ⟨x, e⟩), hd⟩
  refine ⟨fun x y c a b => I.ok.inj x y c (c1 x c a) (c1 y c b), fun x hx => c2 x (PySem.mem_of_lookup hx), fun x c e => ?_, fun i x v h1 h2 => ?_, ?_⟩
  · obtain ⟨v, hv⟩ := I.cell x c (c1 x c e)
    exact ⟨v, cell e hv⟩
  · obtain ⟨k, j, rfl, hk, hv⟩ := inner_get h2
    have h1' : (N.drop 0)[k]? = some x := by rw [List.getElem?_drop]; exact h1
    have hxm : x ∈ N.drop 0 := List.mem_of_getElem? h1'
    have hfree : scope.names.lookup x = some .free := B.fr x hxm
    have hj : X.N[j]? = some x := by
      rw [B.out, List.getElem?_map, hk] at h1'
      have hjl : j < X.N.length := B.js j (List.mem_of_getElem? hk)
      rw [List.getElem?_eq_getElem hjl]
      have e : X.N.getD j "" = x := by simpa using h1'
      rw [← e]
      simp [List.getD_eq_getElem?_getD, List.getElem?_eq_getElem hjl]
    have hcap := B.cap _ (PySem.mem_of_lookup hfree) rfl
    obtain ⟨m, hn, hl⟩ := I.loc
    obtain ⟨u, ru, lk⟩ := hl j x v hj hv (hcap.elim (fun z => .inr (.inl z)) fun z => .inr (.inr z))
    refine ⟨hfree, ?_⟩
    rcases lk with ⟨z, _⟩ | ⟨_, c, e, q⟩
    · exact absurd (show X.env.scope.names.lookup x = some .local from z) (by rcases hcap with y | y <;> (rw [y]; decide))
    · obtain ⟨c', e'⟩ := c2 x (PySem.mem_of_lookup hfree)
      have ec := c1 x c' e'
      rw [e] at ec
      cases ec
      exact ⟨u, c, ru, e', cell e' q⟩
  · unfold inner
    rw [List.length_append, List.length_replicate, List.length_map, B.len]
end
section
variable {X : Cx} {T c r : Addr} {params : Arguments} {body : Expr} {scope : Scope} {x : Str} {p lpos pos : Pos} {k kr : Nat} {fd : FuncData} {px : Str} {R : VK → VK} {Ec : VK → XK} {te : XK → TE} {N : List Str} {js : List Nat} {qn : Str}
end
end L2
end
section
/-! sum of a list of ints; l.index(True) of a list of truths. -/
namespace L2
open PySem PySem.Spec PyProof.Rows
set_option maxHeartbeats 4000000
set_option maxRecDepth 100000
set_option Elab.async false
set_option linter.unusedVariables false
section
variable {X : Cx}
end
end L2
end
section
/-! Defs that raise, by name; the law's call where the law makes lambdas. -/
namespace L2
open PySem PySem.Spec PyProof.Rows
set_option maxHeartbeats 4000000
set_option maxRecDepth 100000
set_option Elab.async false
set_option linter.unusedVariables false
section
variable {X : Cx} {k k' : Nat} {x : Str} {ps : List Str} {sp : Sp} {e : Expr} {es : List Expr} {t : TA} {p pos : Pos} {E : XK}
end
section
variable {P : Program} {w : World} {K : PySem.W.Frag} {mg : Str → Option Value} {base : Heap}
end
end L2
end
section
/-! f(lambda: ..) with the scopes by name. -/
namespace L2
open PySem PySem.Spec PyProof.Rows
set_option maxHeartbeats 4000000
set_option maxRecDepth 100000
set_option Elab.async false
set_option linter.unusedVariables false
section
variable {X : Cx} {T c : Addr} {params : Arguments} {body : Expr} {scope sc : Scope} {x : Str} {p lpos pos : Pos} {k kr k' : Nat} {px : Str} {R : VK → VK} {Ec : VK → XK} {te : XK → TE} {N N0 : List Str} {js : List Nat}
end
end L2
end
section
/-! sum of a tuple of ints. -/
namespace L2
open PySem PySem.Spec PyProof.Rows
set_option maxHeartbeats 4000000
set_option maxRecDepth 100000
set_option Elab.async false
set_option linter.unusedVariables false
section
variable {X : Cx}
end
end L2
end
section
/-! A loop over any iterator whose items are known. -/
namespace L2
open PySem PySem.Spec PyProof.Rows
set_option maxHeartbeats 4000000
set_option Elab.async false
set_option linter.unusedVariables false
theorem for_items {J : It} {g : TG} {tb : TS} {D : Ends} {σ : St} {H : Hp} (n : Nat) (itm : Nat → Hp → V → Prop) (Pv : Nat → St → Hp → Prop) (h0 : Pv 0 σ H)
    (items : ∀ i σ H, i ≤ n → Pv i σ H → (i < n → J.go i H ∧ ∀ x H2, J.yld i H x H2 → Same H H2 ∧ itm i H2 x) ∧ (n ≤ i → J.stop i H))
    (hs : ∀ i x σ H H2, i < n → Pv i σ H → Same H H2 → itm i H2 x → g x σ H2 fun σ2 H3 => tb { D with nx := Pv (i + 1), ct := Pv (i + 1), bk := D.nx } σ2 H3) (hd : ∀ σ H, Pv n σ H → D.nx σ H) :
    ∃ W : Nat → Nat → St → Hp → Prop, (∃ m, W 0 m σ H) ∧ ∀ i m σ H, W i m σ H →
      (J.stop i H ∧ D.nx σ H) ∨ (J.go i H ∧ ∃ N : St → Hp → Prop, (∀ σ' H', N σ' H' → ∃ m', m' < m ∧ W (i + 1) m' σ' H') ∧ ∀ x H', J.yld i H x H' → g x σ H' fun σ2 H2 => tb { D with nx := N, ct := N, bk := D.nx } σ2 H2) := by
  refine ⟨fun i m σ H => m + i = n ∧ Pv i σ H, ⟨n, rfl, h0⟩, fun i m σ H hw => ?_⟩
  obtain ⟨e, p⟩ := hw
  have it := items i σ H (by omega) p
  cases m with
  | zero =>
    obtain rfl : i = n := by omega
    exact .inl ⟨it.2 (Nat.le_refl _), hd σ H p⟩
  | succ m =>
    obtain ⟨go, yl⟩ := it.1 (by omega)
    refine .inr ⟨go, Pv (i + 1), fun σ' H' q => ⟨m, Nat.lt_succ_self _, by omega, q⟩, fun x H' y => ?_⟩
    obtain ⟨sm, im⟩ := yl x H' y
    exact hs i x σ H H' (by omega) p sm im
end L2
end
section
/-! Tuples of pairs held side by side. -/
namespace L2
open PySem PySem.Spec PyProof.Rows
set_option maxHeartbeats 4000000
set_option maxRecDepth 100000
set_option Elab.async false
set_option linter.unusedVariables false
/-- a row of pairs -/
def Prs (H : Hp) (xs : List V) (bl : List (Int × Int)) : Prop := xs.length = bl.length ∧ ∀ (j : Nat) (b : Int × Int), bl[j]? = some b → ∃ p, xs[j]? = some (.ref p) ∧ H p = some (.tup [.int b.1, .int b.2])
section
variable {X : Cx}
end
end L2
end
section
/-! sorted(l) of a list of pairs of ints whose first ones are all unlike. -/
namespace L2
open PySem PySem.Spec PySem.W PyProof.Rows
set_option maxHeartbeats 4000000
set_option maxRecDepth 100000
set_option Elab.async false
set_option linter.unusedVariables false
/-- at v stands the tuple (a, b) -/
def PairAt (h : Heap) (v : Value) (a b : Int) : Prop := ∃ (x : Addr) (o : Obj) (k : Nat) (t u : Tok), v = .ref x ∧ h.get? x = some o ∧ o.cls = .type "tuple" ∧ o.data = .seq #[.int a t, .int b u] k
def pOut (p : Array Nat) (vs : List Value) : Array Value := (p.toList.map fun i => vs.getD i Value.none).toArray
section
variable {prog : Program} {w : World} {A : Around} {E : Value → Shared → Prop} {s : Shared}
theorem pair_lt {v v' : Value} {a b a' b' : Int} {Q : Bool → Shared → Prop} (h : PairAt s.heap v a b) (h' : PairAt s.heap v' a' b') (e : a = a' → b = b') (q : Q (decide (a < a')) s) : wpAny (model prog w) A (keyLt' (tuples' true) v v') Q E s := by
  obtain ⟨x, o, k, t, u, rfl, ho, hc, hd⟩ := h
  obtain ⟨x', o', k', t', u', rfl, ho', hc', hd'⟩ := h'
  refine kat_lt ho hd ho' hd' (kat_cons (wpAny_eqBool_int (kat_go (fun z => kat_yes (kat_cons (wpAny_eqBool_int (kat_go (fun z2 => kat_yes (kat_nil ?_)) fun z2 => ?_)))) fun z => kat_no (oneLt_int q))))
  · have ea : a = a' := by simpa using z
    rw [decide_eq_false (by omega)] at q
    exact q
  · have ea : a = a' := by simpa using z
    have := e ea
    simp [this] at z2
theorem tups_of {vs : List Value} {ks : List (Int × Int)} (hl : vs.length = ks.length) (h : ∀ (i : Nat) v k, vs[i]? = some v → ks[i]? = some k → PairAt s.heap v k.1 k.2) : ∃ fs : List Value, KatTups s.heap vs fs ∧ fs.length = vs.length ∧ ∀ f ∈ fs, ∃ i t, f = .int i t := by
  induction vs generalizing ks with
  | nil => exact ⟨[], .nil, rfl, fun f hf => absurd hf List.not_mem_nil⟩
  | cons v vs ih =>
    cases ks with
    | nil => simp at hl
    | cons k ks =>
      obtain ⟨fs, a, b, c⟩ := ih (ks := ks) (by simpa using hl) fun i v' k' x y => h (i + 1) v' k' x y
      obtain ⟨x, o, m, t, u, rfl, ho, hc, hd⟩ := h 0 v k rfl rfl
      refine ⟨.int k.1 t :: fs, .cons ho hc hd rfl a, by simp [b], fun f hf => ?_⟩
      rcases List.mem_cons.mp hf with rfl | z
      · exact ⟨_, _, rfl⟩
      · exact c f z
theorem sort_pairs {a : Addr} {vs : List Value} {ks : List (Int × Int)} {n : Nat} {Fi : PySem.Fin → Shared → Prop} (ho : s.heap.get? a = some (seqObj "list" vs.toArray n)) (hl : vs.length = ks.length) (hP : ∀ (i : Nat) v k, vs[i]? = some v → ks[i]? = some k → PairAt s.heap v k.1 k.2)
    (nd : (ks.map (·.1)).Nodup) (h64 : vs.length < 64) (h : ∀ p, Pm vs.length p → Up (fun i => (ks.getD i (0, 0)).1) p vs.length → Fi (.done (.ret .none)) { s with heap := sortedHeap s.heap a vs (pOut p vs) }) :
    wpAny (model prog w) A (Builtin.«list.sort» ⟨[.ref a], []⟩) Fi E s := by
  have ha : a < s.heap.objs.size := Heap.lt_size ho
  have emptied := get?_update_seq ho fun _ => (#[] : Array Value)
  obtain ⟨ep, ho1⟩ : ∃ ep, (s.heap.update a (Obj.mapSeq fun _ => (#[] : Array Value))).get? a = some (seqObj "list" #[] ep) := ⟨_, emptied⟩
  generalize hh : ((s.heap.update a (Obj.mapSeq fun _ => (#[] : Array Value))).push (seqObj "tuple" vs.toArray 0)).push (seqObj "list" #[] 0) = h6
  have ho6 : h6.get? a = some (seqObj "list" #[] ep) := by rw [← hh]; exact Heap.get?_push_of_some _ (Heap.get?_push_of_some _ ho1)
  have old : ∀ {x : Addr} {o : Obj}, s.heap.get? x = some o → x ≠ a → h6.get? x = some o := fun {x o} e ne => by
    rw [← hh]
    exact Heap.get?_push_of_some _ (Heap.get?_push_of_some _ (by rw [Heap.get?_update_ne _ _ _ _ ne]; exact e))
  have hP6 : ∀ (i : Nat) v k, vs[i]? = some v → ks[i]? = some k → PairAt h6 v k.1 k.2 := fun i v k y1 y2 => by
    obtain ⟨x, o, m, t, u, rfl, hx, hc, hd⟩ := hP i v k y1 y2
    refine ⟨x, o, m, t, u, rfl, old hx fun z => ?_, hc, hd⟩
    rw [z, ho] at hx
    cases hx
    exact absurd (show Value.type "list" = Value.type "tuple" from hc) (by simp)
  have last : ∀ (out : Array Value) (f : Option Value), f = none → out.size ≤ sizeLine + 1 → Fi (.done (.ret .none)) { s with heap := sortedHeap s.heap a vs out } → Fi (.done (.ret .none)) { s with heap := h6.update a (Obj.mapSeq fun _ => out) } := fun out f _ _ z => by
    rw [← hh]; exact z
  have szv : vs.length ≤ sizeLine := by rw [sizeLine_eq]; omega
  rw [list_sort_plain]
  refine wpAny_bind (listItems_at ho rfl (wpAny_bind (listUpdate_at ho rfl (wpAny_bind (seqEpoch_at ho1 rfl (wpAny_bind (wpAny_newTuple (wpAny_bind (wpAny_newList (wpAny_holding ?_) (Nat.zero_le _))) szv)))) (by rw [List.size_toArray]; exact szv) (Nat.zero_le _))))
  simp only []
  rw [hh]
  have size_of : ∀ p, Pm vs.length p → (pOut p vs).size = vs.length := fun p hp => by
    unfold pOut
    rw [List.size_toArray, List.length_map, Array.length_toList, hp.size]
  by_cases c : vs.toArray.size < 2
  · rw [if_pos c, if_pos c]
    refine wpAny_bind (wpAny_pure ?_)
    rw [StateT.run_pure]
    refine wpAny_bind (wpAny_pure ?_)
    dsimp only
    have hp : Pm vs.length (List.range vs.length).toArray := ⟨by simp⟩
    have eo : (arrOf (SortSt.mk' general' (vs.toArray.zip vs.toArray) #[] 7 none)).map (·.2) = pOut (List.range vs.length).toArray vs := by
      show (vs.toArray.zip vs.toArray).map (·.2) = _
      unfold pOut
      apply Array.toList_inj.mp
      apply List.ext_getElem?
      intro i
      simp
      by_cases z : i < vs.length
      · simp [z]
      · simp [z]
    rw [eo]
    refine wpAny_bind (seqEpoch_at ho6 rfl (wpAny_bind (listUpdate_at ho6 rfl ?_ (Nat.zero_le _) (by rw [size_of _ hp]; omega))))
    simp only [bne_self_eq_false, Bool.false_eq_true, if_false]
    refine wpAny_pure (last _ none rfl (by rw [size_of _ hp]; omega) (h _ hp fun j h1 h2 => ?_))
    rw [List.size_toArray] at c
    omega
  · rw [if_neg c, if_neg c]
    rw [List.size_toArray] at c
    obtain ⟨fs, ft, fl, fi⟩ := tups_of (s := { s with heap := h6 }) hl hP6
    refine wpAny_bind (kat_kind (T := .type "int") ft (by omega) (fun v hv => ?_) (by decide) ?_)
    · obtain ⟨i, t, rfl⟩ := fi v hv
      exact .now
    have inj : ∀ i j, i < vs.length → j < vs.length → (ks.getD i (0, 0)).1 = (ks.getD j (0, 0)).1 → i = j := fun i j hi hj e => by
      have pw := List.pairwise_iff_getElem.mp nd
      have g : ∀ k, k < vs.length → ∃ h : k < (ks.map (·.1)).length, (ks.map (·.1))[k] = (ks.getD k (0, 0)).1 := fun k hk => by
        have hk' : k < ks.length := by omega
        refine ⟨by rw [List.length_map]; exact hk', ?_⟩
        rw [List.getElem_map, List.getD_eq_getElem?_getD, List.getElem?_eq_getElem hk']
        rfl
      obtain ⟨a1, b1⟩ := g i hi
      obtain ⟨a2, b2⟩ := g j hj
      rcases Nat.lt_trichotomy i j with z | z | z
      · exact absurd (by rw [b1, b2]; exact e) (pw i j a1 a2 z)
      · exact z
      · exact absurd (by rw [b1, b2]; exact e.symm) (pw j i a2 a1 z)
    have told : Told (kas_ask prog w A (tuples' (Value.type "int" != Value.type "tuple")) vs) (fun i => (ks.getD i (0, 0)).1) (fun s' => s' = { s with heap := h6 }) vs.length := fun i j C s' hi hj hs q => by
      subst hs
      have at_ : ∀ k, k < vs.length → PairAt h6 (vs.getD k Value.none) (ks.getD k (0, 0)).1 (ks.getD k (0, 0)).2 := fun k hk => by
        have hk' : k < ks.length := by omega
        have := hP6 k _ _ (List.getElem?_eq_getElem hk) (List.getElem?_eq_getElem hk')
        rw [List.getD_eq_getElem?_getD, List.getD_eq_getElem?_getD, List.getElem?_eq_getElem hk, List.getElem?_eq_getElem hk']
        exact this
      refine pair_lt (at_ i hi) (at_ j hj) (fun e => by rw [inj i j hi hj e]) (q _ rfl)
    refine wpAny_bind (wpAny_mono (kat_run (Q := fun st' s' => ∃ p : Array Nat, arrOf st' = p.map (kas_item (vs.toArray.zip vs.toArray)) ∧ failedOf st' = none ∧ s' = { s with heap := h6 } ∧ Pm vs.length p ∧ Up (fun i => (ks.getD i (0, 0)).1) p vs.length)
      rfl (by omega) h64 (fun p st' s' _ a2 a3 a4 => ⟨p, a2, a3, a4⟩) (go_sort told (by omega) inj rfl fun p s' hs hp up => ⟨hs, hp, up⟩)) ?_ fun _ _ e => e)
    rintro ⟨⟨⟩, st'⟩ s' ⟨p, har, hf, rfl, hp, up⟩
    dsimp only
    have eo : (arrOf st').map (·.2) = pOut p vs := kat_snds rfl har
    rw [eo]
    refine wpAny_bind (seqEpoch_at ho6 rfl (wpAny_bind (listUpdate_at ho6 rfl ?_ (Nat.zero_le _) (by rw [size_of _ hp]; omega))))
    rw [hf]
    simp only [bne_self_eq_false, Bool.false_eq_true, if_false]
    exact wpAny_pure (last _ none rfl (by rw [size_of _ hp]; omega) (h p hp up))
end
end L2
namespace L2
open PySem PySem.Spec PySem.W PyProof.Rows
set_option maxHeartbeats 4000000
set_option maxRecDepth 100000
def rSortP : List V → Hp → VK → Prop := fun xs H Q => ∃ (a : Addr) (ys : List V) (bl : List (Int × Int)), xs = [.ref a] ∧ H a = some (.lst ys) ∧ Prs H ys bl ∧ (bl.map (·.1)).Nodup ∧ bl.length < 64 ∧
  ∀ (bl' : List (Int × Int)) (zs : List V) (l : Addr), bl'.Perm bl → bl'.Pairwise (fun x y => x.1 < y.1) → Prs H zs bl' → H l = none → Q (.ref l) (upd H l (.lst zs))
theorem call_sortP {X : Cx} : CallR X (.builtin "sorted") rSortP := by
  intro pins s σ H xs us Q I r h
  obtain ⟨a, ys, bl, rfl, ha, pr, nd, h64, q⟩ := h
  obtain ⟨u, rfl, rx⟩ := vals1 r
  cases (show u = Value.ref a from rx)
  obtain ⟨hz, vs, n, rv, ho⟩ : ys.length ≤ sizeLine ∧ ∃ (its : List Value) (n : Nat), Vals ys its ∧ s.heap.get? a = some { cls := .type "list", data := .seq its.toArray n } := I.hok a _ ha
  have lv : vs.length = bl.length := by rw [← pr.1]; exact rv.length.symm
  have szv : vs.length ≤ sizeLine := by rw [sizeLine_eq]; omega
  have hP : ∀ (i : Nat) v k, vs[i]? = some v → bl[i]? = some k → PairAt s.heap v k.1 k.2 := fun i v k e1 e2 => by
    obtain ⟨p, e3, hp⟩ := pr.2 i k e2
    obtain ⟨u, e4, ru⟩ := rv.get e3
    rw [e1] at e4
    have ev : v = .ref p := (Option.some.inj e4).trans (show u = Value.ref p from ru)
    obtain ⟨_, its, rt, o, g1, g2, k2, g3⟩ : [V.int k.1, V.int k.2].length ≤ sizeLine ∧ ∃ its : List Value, Vals [.int k.1, .int k.2] its ∧ IsTup s.heap p its.toArray := I.hok p _ hp
    obtain ⟨w1, w2, rfl, r1, r2⟩ := rt.two
    obtain ⟨t1, rfl⟩ := (show ∃ t, w1 = Value.int k.1 t from r1)
    obtain ⟨t2, rfl⟩ := (show ∃ t, w2 = Value.int k.2 t from r2)
    exact ⟨p, o, k2, t1, t2, ev, g1, g2, g3⟩
  refine Calls.call_function_entry kind_sorted plain_sorted entry_sorted (args_sorted1 _) ?_
  unfold Builtin.«sorted»
  refine wpAny_bind (m := checkCount "sorted" 1 1 _) (wpAny_pure (wpAny_bind (collect_list (vs := vs) ⟨_, ho, rfl, n, rfl⟩ ?_ szv)))
  have old1 : ∀ b o, s.heap.get? b = some o → ((s.heap.push (seqObj "list" #[] 0)).update s.heap.objs.size (Obj.mapSeq (· ++ vs.toArray))).get? b = some o := fun b o e => by
    rw [Heap.get?_update_ne _ _ _ _ (Nat.ne_of_lt (Heap.lt_size e))]
    exact Heap.get?_push_of_some _ e
  have sz1 : s.heap.objs.size ≤ ((s.heap.push (seqObj "list" #[] 0)).update s.heap.objs.size (Obj.mapSeq (· ++ vs.toArray))).objs.size := by
    rw [Heap.size_update, size_push']
    exact Nat.le_succ _
  generalize (s.heap.push (seqObj "list" #[] 0)).update s.heap.objs.size (Obj.mapSeq (· ++ vs.toArray)) = h1 at old1 sz1 ⊢
  refine wpAny_bind (wpAny_newList ?_ szv)
  have hoL : (h1.push (seqObj "list" vs.toArray 0)).get? h1.objs.size = some (seqObj "list" vs.toArray 0) := Heap.get?_push_size _ rfl
  refine wpAny_bind (wpAny_holding (wpAny_call_entry slot_list_sort ⟨_, hoL, rfl⟩ entry_list_sort (sort_pairs (s := { s with heap := h1.push (seqObj "list" vs.toArray 0) }) (ks := bl) hoL lv (fun i v k e1 e2 => ?_) nd (by omega) fun p hp up => ⟨_, rfl, ?_⟩) (args_list_sort _)))
  · obtain ⟨x, o, m, t, u, e, g, c⟩ := hP i v k e1 e2
    exact ⟨x, o, m, t, u, e, Heap.get?_push_of_some _ (old1 _ _ g), c⟩
  obtain ⟨e, he⟩ := sortedHeap_at (out := pOut p vs) hoL
  have old : ∀ b o, s.heap.get? b = some o → (sortedHeap (h1.push (seqObj "list" vs.toArray 0)) h1.objs.size vs (pOut p vs)).get? b = some o := fun b o eb => by
    have lt := Nat.lt_of_lt_of_le (Heap.lt_size eb) sz1
    rw [sortedHeap_old (h := h1.push (seqObj "list" vs.toArray 0)) (b := b) (Nat.ne_of_lt lt) (by rw [Heap.size_push]; exact Nat.lt_succ_of_lt lt)]
    exact Heap.get?_push_of_some _ (old1 _ _ eb)
  have inside : ∀ i, i ∈ p.toList → i < bl.length := fun i hi => by
    have := List.mem_range.mp (hp.perm.mem_iff.mp hi)
    omega
  have pt : ∀ i, i < bl.length → ∃ x, ys.getD i V.non = .ref x ∧ H x = some (.tup [.int (bl.getD i (0, 0)).1, .int (bl.getD i (0, 0)).2]) ∧ vs.getD i Value.none = .ref x := fun i hi => by
    obtain ⟨x, e1, e2⟩ := pr.2 i _ (List.getElem?_eq_getElem hi)
    obtain ⟨u, e4, ru⟩ := rv.get e1
    refine ⟨x, ?_, ?_, ?_⟩
    · rw [List.getD_eq_getElem?_getD, e1]; rfl
    · rw [List.getD_eq_getElem?_getD, List.getElem?_eq_getElem hi]; exact e2
    · rw [List.getD_eq_getElem?_getD, e4]; exact (show u = Value.ref x from ru)
  have rz : Vals (p.toList.map fun i => ys.getD i V.non) (p.toList.map fun i => vs.getD i Value.none) := by
    have : ∀ l : List Nat, (∀ i ∈ l, i < bl.length) → Vals (l.map fun i => ys.getD i V.non) (l.map fun i => vs.getD i Value.none) := fun l => by
      induction l with
      | nil => intro _; exact .nil
      | cons i l ih =>
        intro hl
        obtain ⟨x, e1, _, e2⟩ := pt i (hl i List.mem_cons_self)
        refine .cons ?_ (ih fun j hj => hl j (List.mem_cons_of_mem _ hj))
        show RelV (ys.getD i V.non) (vs.getD i Value.none)
        rw [e1, e2]
        rfl
    exact this _ inside
  have lp : p.toList.length = bl.length := by rw [Array.length_toList, hp.size, lv]
  have fin := q (p.toList.map fun i => bl.getD i (0, 0)) (p.toList.map fun i => ys.getD i V.non) h1.objs.size ?_ ?_ ?_ (I.hok.fresh sz1)
  · refine wpAny_pure ⟨_, rfl, .ref h1.objs.size, _, I.laid (a := h1.objs.size) (t' := s.toks) (o := .lst (p.toList.map fun i => ys.getD i V.non)) old sz1 ?_, rfl, fin⟩
    exact ⟨by rw [List.length_map, lp, sizeLine_eq]; omega, _, e, rz, he⟩
  · have h2 : (List.range vs.length).map (fun i => bl.getD i (0, 0)) = bl := by
      apply List.ext_getElem?
      intro i
      rw [List.getElem?_map, lv]
      by_cases z : i < bl.length
      · rw [List.getElem?_range z, List.getElem?_eq_getElem z]
        show some (bl.getD i (0, 0)) = _
        rw [List.getD_eq_getElem?_getD, List.getElem?_eq_getElem z]
        rfl
      · rw [List.getElem?_eq_none (by simpa using z), List.getElem?_eq_none (by omega)]
        rfl
    have h3 := hp.perm.map fun i => bl.getD i (0, 0)
    rw [h2] at h3
    exact h3
  · rw [List.pairwise_map]
    refine List.pairwise_iff_getElem.mpr fun i j hi hj hij => ?_
    have ei : p.getD i 0 = p.toList[i] := by simp [Array.getD, show i < p.size by simpa using hi]
    have ej : p.getD j 0 = p.toList[j] := by simp [Array.getD, show j < p.size by simpa using hj]
    have := up.lt' hij (by rw [lv, ← lp]; exact hj)
    rw [ei, ej] at this
    exact this
  · refine ⟨by rw [List.length_map, List.length_map], fun j b hb => ?_⟩
    rw [List.getElem?_map] at hb
    cases ej : p.toList[j]? with
    | none => rw [ej] at hb; cases hb
    | some i =>
      rw [ej] at hb
      cases hb
      obtain ⟨x, e1, e2, _⟩ := pt i (inside i (List.mem_of_getElem? ej))
      refine ⟨x, ?_, e2⟩
      rw [List.getElem?_map, ej]
      exact congrArg some e1
end L2
end
section
/-! Lists of pairs held side by side. -/
namespace L2
open PySem PySem.Spec PyProof.Rows
set_option maxHeartbeats 4000000
set_option maxRecDepth 100000
set_option Elab.async false
set_option linter.unusedVariables false
section
variable {X : Cx}
end
end L2
end
section
/-! Lists of ints held side by side: unlike. -/
namespace L2
open PySem PySem.Spec PyProof.Rows
set_option maxHeartbeats 4000000
set_option maxRecDepth 100000
set_option Elab.async false
set_option linter.unusedVariables false
section
variable {X : Cx}
def rNeL (K : PySem.W.Frag) : R2 := fun x y H Q => ∃ (a b : Addr) (ns ms : List Int), x = .ref a ∧ y = .ref b ∧ SqL K H a (ns.map V.int) ∧ SqL K H b (ms.map V.int) ∧ ns.length = ms.length ∧ Q (.bl (!decide (ns = ms))) H
theorem op_neL (hu : X.A.units < cLine) : OpR X (compareOp .NotEq) (rNeL X.K) := by
  intro pins s σ H x y v u Q I rx ry h
  obtain ⟨a, b, ns, ms, rfl, rfl, ha, hb, hl, q⟩ := h
  cases rx
  cases ry
  obtain ⟨its, r1, p1, _⟩ := I.list ha
  obtain ⟨its2, r2, p2, _⟩ := I.list hb
  have l1 := r1.length
  have l2 := r2.length
  rw [List.length_map] at l1 l2
  refine of_rcne' (SeqAt.RcNeAt.lists p1.isList p2.isList (by simp only [List.size_toArray]; omega) hu (ints_eqAt r1 r2)) ?_
  have e := all_same ns ms
  rw [hl, Nat.min_self, beq_self_eq_true, Bool.and_true] at e
  simp only [List.size_toArray]
  rw [← l1, hl, e]
  exact ⟨.bl (!decide (ns = ms)), H, I, rfl, q⟩
end
end L2
end
section
/-! A comprehension within a comprehension's element: the outer target is a cell. -/
namespace L2
open PySem PySem.Spec PyProof.Rows
set_option maxHeartbeats 4000000
set_option maxRecDepth 100000
set_option Elab.async false
set_option linter.unusedVariables false
abbrev cell0 : Obj := { cls := .type "cell", data := .cell none }
structure Blk1 (t : Str) (sc : Scope) (N0 : List Str) (N : List Str) (nt : Nat) (js : List Nat) (scope : Scope) : Prop where
  kind : scope.kind = .function
  loc : ∀ y ∈ scope.names, y.2 = .local → scope.names.lookup y.1 = some .local
  one : ∀ n cl, cellsFrom n scope.names cl = (t, n) :: cl
  lay : ∀ h, pushCells h scope.names = h.push cell0
  only : ∀ y ∈ scope.names, y.2 = .cell → y.1 = t
  cap : ∀ y ∈ scope.names, y.2 = .free → sc.names.lookup y.1 = some .cell ∨ sc.names.lookup y.1 = some .free
  nf : ∀ y ∈ scope.names, y.2 = .free → y.1 ≠ t
  len : N.length = nt + js.length
  out : N.drop nt = js.map fun j => N0.getD j ""
  js : ∀ j ∈ js, j < N0.length
  fr : ∀ x ∈ N.drop nt, scope.names.lookup x = some .free
  nd : N.Nodup
section
variable {M : Model} {A : Around} {E : Value → Shared → Prop} {s : Shared}
end

section
variable {X : Cx} {pins : List (Addr × Obj)} {σ : St} {H : Hp} {s : Shared} {t : Str} {N : List Str} {nt : Nat} {js : List Nat} {scope : Scope} {cl : List (Str × Addr)} {fp : List Addr}
end
section
variable {X : Cx} {elt iter : Expr} {ifs : List Expr} {scope : Scope} {pos : Pos} {N : List Str} {js : List Nat} {sc : Scope} {N0 : List Str} {wi : TI} {tt : TT} {te : TE} {x : Str} {px : Pos}
end
/-! ### rules with the module's part written out, for use within blocks -/
section
variable {X : Cx} {tg : Expr}
end
end L2
end
section
/-! A list's method, called within a block. -/
namespace L2
open PySem PySem.Spec PyProof.Rows
set_option maxHeartbeats 4000000
set_option Elab.async false
set_option linter.unusedVariables false
section
variable {X : Cx} {o e : Expr} {es : List Expr} {to : TE} {t : TA} {name : Str} {apos cpos : Pos} {T id : String} {r : V → List V → Hp → VK → Prop}
end
end L2
end
section
/-! A comprehension by an invariant, with a test. -/
namespace L2
open PySem PySem.Spec PyProof.Rows
set_option maxHeartbeats 4000000
set_option Elab.async false
set_option linter.unusedVariables false
section
variable {X : Cx} {elt iter : Expr} {ifs : List Expr} {scope : Scope} {px py tp pos pos' spos : Pos} {k ii : Nat} {x y nm : Str} {N N0 : List Str} {js : List Nat} {sc : Scope} {wi : TI} {tt : TT} {te : TE}
/-- name = [.. for x, y in ..] -/
theorem ps_comp2 (hNd : X.N.Nodup) (hii : X.N[ii]? = some nm) (hloc : Loc X.env.scope nm) (hc : X.calm = true) (hsc : X.env.scope = sc) (hN : X.N = N0) (B : Blk sc N0 (x :: y :: N) 2 js scope) (hx : scope.names.lookup x = some .local) (hy : scope.names.lookup y = some .local) (hi : PI X (.Tuple [.Name x px, .Name y py] k tp) iter wi)
    (ht : ∀ cl C s H fp, PTs (blk X (x :: y :: N) scope cl C s H fp) ifs tt) (he : ∀ cl C s H fp, PE (blk X (x :: y :: N) scope cl C s H fp) elt te)
    (hsw : swapsWith (.ListComp elt [⟨.Tuple [.Name x px, .Name y py] k tp, iter, ifs, 0⟩] scope pos) (some (.Name nm pos')) spos.line X.env = pure true := by rfl)
    (hf : X.fn nm = true ∨ X.env.scope.names.lookup nm = some .local := by first | exact .inl rfl | exact .inr rfl | assumption)
    (hs : ∀ x, foldedSetIterable iter X.env x = pure x := by intro _; rfl) : PS X (.Assign [.Name nm pos'] (.ListComp elt [⟨.Tuple [.Name x px, .Name y py] k tp, iter, ifs, 0⟩] scope pos) spos) (tSetC ii (tComp 2 js wi (gTup X.K 2 (gCons (gName 0) (gCons (gName 1) gNil))) tt te)) :=
  ps_comp hNd hii hloc hc hsc hN B hi (fun cl C s H fp => pg_tup (X := blk X (x :: y :: N) scope cl C s H fp) hc (pgs_cons (pg_name (i := 0) B.nd rfl (.inl (blk_loc hx)) (.inr (blk_loc hx))) (pgs_cons (pg_name (i := 1) B.nd rfl (.inl (blk_loc hy)) (.inr (blk_loc hy))) pgs_nil))) ht he hsw hf hs
end
theorem comp_any {J : It} {g : TG} {tt : TT} {te : TE} {Q : VK} {D : Addr} {H1 : Hp} {σ0 : St} (n : Nat) (hn : n ≤ sizeLine) (Pv : Nat → St → Hp → List V → Prop) (itm : Nat → Hp → V → Prop)
    (h0 : Pv 0 σ0 (upd H1 D (.lst [])) []) (hD : ∀ i σ H ys, Pv i σ H ys → H D = some (.lst ys) ∧ ys.length ≤ i)
    (items : ∀ i σ H ys, Pv i σ H ys → (i < n → J.go i H ∧ ∀ x H2, J.yld i H x H2 → Same H H2 ∧ itm i H2 x) ∧ (n ≤ i → J.stop i H))
    (step : ∀ i x σ H H2 ys, i < n → Pv i σ H ys → Same H H2 → itm i H2 x → ∀ (A : St → V → Hp → Prop) (B : St → Hp → Prop), (∀ σ3 y H5, H5 D = some (.lst ys) → Pv (i + 1) σ3 (upd H5 D (.lst (ys ++ [y]))) (ys ++ [y]) → A σ3 y H5) →
      (∀ σ3 H4, Pv (i + 1) σ3 H4 ys → B σ3 H4) → g x σ H2 fun σ3 H3 => tt σ3 H3 fun ok H4 => if ok = true then te σ3 H4 (A σ3) else B σ3 H4)
    (fin : ∀ σ H ys, Pv n σ H ys → Q (.ref D) H) : cmpW J g tt te Q D σ0 H1 := by
  refine ⟨fun i m σ H => m = n - i ∧ i ≤ n ∧ ∃ ys, Pv i σ H ys, ⟨n, by omega, Nat.zero_le _, [], h0⟩, ?_⟩
  rintro i m σ H ⟨rfl, hi, ys, pv⟩
  by_cases hlt : i < n
  · obtain ⟨go, yl⟩ := (items i σ H ys pv).1 hlt
    refine .inr ⟨go, fun x H2 y => ?_⟩
    obtain ⟨sm, im⟩ := yl x H2 y
    refine step i x σ H H2 ys hlt pv sm im (fun σ3 y H5 => ∃ ys, H5 D = some (.lst ys) ∧ ys.length < sizeLine ∧ ∃ m', m' < n - i ∧ (m' = n - (i + 1) ∧ i + 1 ≤ n ∧ ∃ zs, Pv (i + 1) σ3 (upd H5 D (.lst (ys ++ [y]))) zs)) (fun σ3 H4 => ∃ m', m' < n - i ∧ (m' = n - (i + 1) ∧ i + 1 ≤ n ∧ ∃ zs, Pv (i + 1) σ3 H4 zs)) (fun σ3 y H5 e p => ?_) (fun σ3 H4 p => ?_)
    · have := (hD _ _ _ _ pv).2
      exact ⟨ys, e, by omega, n - (i + 1), by omega, rfl, by omega, _, p⟩
    · exact ⟨n - (i + 1), by omega, rfl, by omega, _, p⟩
  · have e : i = n := by omega
    subst e
    exact .inl ⟨(items i σ H ys pv).2 (Nat.le_refl _), fin σ H ys pv⟩
end L2
end
section
/-! max of a list of ints. -/
namespace L2
open PySem PySem.Spec PyProof.Rows
set_option maxHeartbeats 4000000
set_option maxRecDepth 100000
set_option Elab.async false
set_option linter.unusedVariables false
section
variable {X : Cx}
end
end L2
end
section
/-! Peeling: what is taken out, what is left. -/
namespace BB
set_option linter.unusedVariables false
/-- the balls with an empty box right behind them -/
def bare (row : List Int) : List Int := row.filter fun p => decide (p + 1 ∉ row)
/-- what a comprehension with a test tells of a list -/
theorem sel_list {α β : Type} (d : α) (l : List α) (q : α → Bool) (f : α → β) : ((List.range l.length).filter fun i => q (l.getD i d)).map (fun i => f (l.getD i d)) = (l.filter q).map f := by
  induction l with
  | nil => rfl
  | cons a r ih =>
    rw [List.length_cons, List.range_succ_eq_map, List.filter_cons, List.filter_map, List.filter_cons]
    have e1 : (a :: r).getD 0 d = a := rfl
    have e2 : ((fun i => q ((a :: r).getD i d)) ∘ Nat.succ) = fun i => q (r.getD i d) := rfl
    rw [e1, e2]
    cases hq : q a with
    | true =>
      simp only [if_true, List.map_cons, List.map_map]
      rw [show (List.map ((fun i => f ((a :: r).getD i d)) ∘ Nat.succ) ((List.range r.length).filter fun i => q (r.getD i d))) = ((List.range r.length).filter fun i => q (r.getD i d)).map fun i => f (r.getD i d) from rfl, ih]
      rfl
    | false =>
      simp only [Bool.false_eq_true, if_false, List.map_map]
      rw [show (List.map ((fun i => f ((a :: r).getD i d)) ∘ Nat.succ) ((List.range r.length).filter fun i => q (r.getD i d))) = ((List.range r.length).filter fun i => q (r.getD i d)).map fun i => f (r.getD i d) from rfl, ih]
theorem all_list {α β : Type} (d : α) (l : List α) (f : α → β) : (List.range l.length).map (fun i => f (l.getD i d)) = l.map f := by
  have h := sel_list d l (fun _ => true) f
  rw [List.filter_eq_self.mpr fun _ _ => rfl, List.filter_eq_self.mpr fun _ _ => rfl] at h
  exact h
end BB
end
section
/-! The blocks of a row. -/
namespace BB
def blk : List Int → List (Int × Int)
  | [] => []
  | p :: r => match blk r with
    | [] => [(p, 1)]
    | (q, n) :: t => if q = p + 1 then (p, n + 1) :: t else (p, 1) :: (q, n) :: t
end BB
end
section
/-! Blocks put farther. -/
namespace BB
end BB
end
section
/-! Balls and their partners. -/
namespace BB
/-- how many are to be laid yet, so many boxes behind b -/
def wlk (row : List Int) (b : Int) : Nat → Int
  | 0 => 1
  | d + 1 => wlk row b d + if b + (d : Int) + 1 ∈ row then 1 else -1
def Prt (row : List Int) (b : Int) (d : Nat) : Prop := wlk row b d = 0 ∧ ∀ e, e < d → 0 < wlk row b e
theorem prt_uniq {row : List Int} {b : Int} {d d' : Nat} (h : Prt row b d) (h' : Prt row b d') : d = d' := by
  rcases Nat.lt_trichotomy d d' with z | z | z
  · have := h'.2 d z; rw [h.1] at this; omega
  · exact z
  · have := h.2 d' z; rw [h'.1] at this; omega
theorem one_more (p : Int) (r : List Int) : ∀ l : List Int, l.Nodup → (l.filter fun x => decide (x ∈ p :: r)).length ≤ 1 + (l.filter fun x => decide (x ∈ r)).length
  | [], _ => by simp
  | x :: l, nd => by
    have nd' := List.nodup_cons.mp nd
    have ih := one_more p r l nd'.2
    by_cases e : x = p
    · have same : (l.filter fun y => decide (y ∈ p :: r)) = l.filter fun y => decide (y ∈ r) := List.filter_congr fun y hy => by
        have : y ≠ p := fun z => nd'.1 (by rw [e, ← z]; exact hy)
        simp [this]
      rw [List.filter_cons, if_pos (by simp [e]), List.length_cons, same, List.filter_cons]
      split
      · rw [List.length_cons]; omega
      · omega
    · rw [List.filter_cons, List.filter_cons]
      by_cases c : x ∈ r
      · rw [if_pos (by simp [c]), if_pos (by simp [c]), List.length_cons, List.length_cons]; omega
      · rw [if_neg (by simp [c, e]), if_neg (by simp [c])]; exact ih
theorem in_row_le : ∀ (row l : List Int), l.Nodup → (l.filter fun x => decide (x ∈ row)).length ≤ row.length
  | [], l, _ => by simp
  | p :: r, l, nd => by
    have a := one_more p r l nd
    have b := in_row_le r l nd
    rw [List.length_cons]
    omega
theorem wlk_is (row : List Int) (b : Int) : ∀ d : Nat, wlk row b d = 1 - (d : Int) + 2 * ((((List.range d).map fun (i : Nat) => b + (i : Int) + 1).filter fun x => decide (x ∈ row)).length : Int)
  | 0 => by simp [wlk]
  | d + 1 => by
    rw [wlk, wlk_is row b d, List.range_succ, List.map_append, List.filter_append, List.length_append]
    by_cases c : b + (d : Int) + 1 ∈ row
    · rw [if_pos c, List.map_singleton, List.filter_cons, if_pos (by simpa using c)]
      simp only [List.filter_nil, List.length_cons, List.length_nil]
      omega
    · rw [if_neg c, List.map_singleton, List.filter_cons, if_neg (by simpa using c)]
      simp only [List.filter_nil, List.length_nil]
      omega
theorem wlk_end (row : List Int) (b : Int) : wlk row b (2 * row.length + 1) ≤ 0 := by
  rw [wlk_is]
  have nd : ((List.range (2 * row.length + 1)).map fun (i : Nat) => b + (i : Int) + 1).Nodup := by
    refine List.pairwise_map.mpr (List.nodup_range.imp fun {a c} h e => h ?_)
    omega
  have := in_row_le row _ nd
  omega
theorem prt_least (row : List Int) (b : Int) : ∀ N : Nat, wlk row b N ≤ 0 → ∃ d, d ≤ N ∧ Prt row b d := by
  intro N
  induction N using Nat.strongRecOn with
  | ind N ih =>
    intro h
    by_cases c : ∃ e, e < N ∧ wlk row b e ≤ 0
    · obtain ⟨e, e1, e2⟩ := c
      obtain ⟨d, d1, d2⟩ := ih e e1 e2
      exact ⟨d, by omega, d2⟩
    · have pos : ∀ e, e < N → 0 < wlk row b e := fun e he => by
        exact Int.not_le.mp fun z => c ⟨e, he, z⟩
      cases N with
      | zero => exact absurd h (by simp [wlk])
      | succ N =>
        refine ⟨N + 1, Nat.le_refl _, ?_, pos⟩
        have a := pos N (Nat.lt_succ_self _)
        rw [wlk] at h ⊢
        split at h <;> split <;> first | omega | contradiction
theorem prt_ex (row : List Int) (b : Int) : ∃ d, d ≤ 2 * row.length + 1 ∧ Prt row b d := prt_least row b _ (wlk_end row b)
/-- the balls that are held, the last one on top; box is looked at next -/
def Stk (row hs : List Int) (box : Int) : Prop := ∀ (j : Nat) (h : Int), hs[j]? = some h → h < box ∧ wlk row h (box - 1 - h).toNat = (hs.length : Int) - (j : Int) ∧ ∀ e, e ≤ (box - 1 - h).toNat → 0 < wlk row h e
theorem wlk_at {row : List Int} {h box : Int} (l : h < box) : wlk row h (box - h).toNat = wlk row h (box - 1 - h).toNat + if box ∈ row then 1 else -1 := by
  have e : (box - h).toNat = (box - 1 - h).toNat + 1 := by omega
  rw [e, wlk, show h + ((box - 1 - h).toNat : Int) + 1 = box by omega]
theorem Stk.pop {row zs : List Int} {h box : Int} (s : Stk row (zs ++ [h]) box) (hb : box ∉ row) : h < box ∧ Prt row h (box - h).toNat ∧ Stk row zs (box + 1) := by
  obtain ⟨l, w, pos⟩ := s zs.length h (by simp)
  refine ⟨l, ⟨?_, fun e he => pos e (by omega)⟩, fun j g hg => ?_⟩
  · rw [wlk_at l, w, if_neg hb, List.length_append, List.length_singleton]
    omega
  · have jl : j < zs.length := (List.getElem?_eq_some_iff.mp hg).1
    obtain ⟨l', w', pos'⟩ := s j g (by rw [List.getElem?_append_left jl]; exact hg)
    have ev : wlk row g (box - g).toNat = (zs.length : Int) - (j : Int) := by
      rw [wlk_at l', w', if_neg hb, List.length_append, List.length_singleton]
      omega
    refine ⟨by omega, by rw [show (box + 1 - 1 - g) = box - g by omega]; exact ev, fun e he => ?_⟩
    by_cases c : e ≤ (box - 1 - g).toNat
    · exact pos' e c
    · rw [show e = (box - g).toNat by omega, ev]
      omega
theorem Stk.push {row hs : List Int} {p box : Int} (s : Stk row hs box) (hp : p ∈ row) (c : hs = [] ∨ box = p) : Stk row (hs ++ [p]) (p + 1) := fun j g hg => by
  rw [List.length_append, List.length_singleton]
  by_cases jl : j < hs.length
  · rw [List.getElem?_append_left jl] at hg
    have eb : box = p := c.elim (fun z => by rw [z] at jl; simp at jl) id
    subst eb
    obtain ⟨l', w', pos'⟩ := s j g hg
    have ev : wlk row g (box - g).toNat = ((hs.length + 1 : Nat) : Int) - (j : Int) := by
      rw [wlk_at l', w', if_pos hp]
      omega
    refine ⟨by omega, by rw [show (box + 1 - 1 - g) = box - g by omega]; exact ev, fun e he => ?_⟩
    by_cases c : e ≤ (box - 1 - g).toNat
    · exact pos' e c
    · rw [show e = (box - g).toNat by omega, ev]
      omega
  · have jj : j = hs.length := by
      have := (List.getElem?_eq_some_iff.mp hg).1
      rw [List.length_append, List.length_singleton] at this
      omega
    subst jj
    rw [List.getElem?_append_right (Nat.le_refl _), Nat.sub_self] at hg
    cases hg
    refine ⟨by omega, ?_, fun e he => ?_⟩
    · rw [show (p + 1 - 1 - p).toNat = 0 by omega]
      show (1 : Int) = _
      omega
    · rw [show e = 0 by omega]
      show (0 : Int) < 1
      omega
/-- pairs of balls and their partners -/
def FD (row : List Int) (fl : List (Int × Int)) : Prop := ∀ q ∈ fl, q.1 < q.2 ∧ Prt row q.1 (q.2 - q.1).toNat
theorem fd_same {row : List Int} : ∀ {a b : List (Int × Int)}, a.map (·.1) = b.map (·.1) → FD row a → FD row b → a = b
  | [], [], _, _, _ => rfl
  | [], _ :: _, e, _, _ => by cases e
  | _ :: _, [], e, _, _ => by cases e
  | x :: a, y :: b, e, h1, h2 => by
    rw [List.map_cons, List.map_cons] at e
    injection e with e1 e2
    have ih := fd_same e2 (fun q hq => h1 q (List.mem_cons_of_mem _ hq)) fun q hq => h2 q (List.mem_cons_of_mem _ hq)
    obtain ⟨l1, p1⟩ := h1 x List.mem_cons_self
    obtain ⟨l2, p2⟩ := h2 y List.mem_cons_self
    rw [e1] at p1 l1
    have := prt_uniq p1 p2
    have e3 : x.2 = y.2 := by omega
    rw [ih, Prod.ext e1 e3]
end BB
end
section
/-! Depths by a stack, and what is peeled off. -/
namespace BB
set_option linter.unusedVariables false
/-- balls from x on, with so many empty boxes behind each -/
def pos : Int → List Nat → List Int
  | _, [] => []
  | x, g :: r => x :: pos (x + 1 + (g : Int)) r
/-- the top is told that a depth went out -/
def bump (d : Nat) : List Nat → List Nat
  | [] => []
  | t :: S => max t (d + 1) :: S
/-- depths that go out by so many empty boxes, and what is held then; the top is ahead -/
def pops : Nat → List Nat → List Nat × List Nat
  | 0, S => ([], S)
  | _ + 1, [] => ([], [])
  | g + 1, d :: S => (d :: (pops g (bump d S)).1, (pops g (bump d S)).2)
/-- all depths that go out -/
def dps : List Nat → List Nat → List Nat
  | [], _ => []
  | g :: r, S => (pops g (1 :: S)).1 ++ dps r (pops g (1 :: S)).2
/-- the gaps between -/
def tk : List Int → List Nat
  | [] => []
  | [_] => []
  | p :: q :: r => (q - p - 1).toNat :: tk (q :: r)
end BB
end
section
/-! Takings and peelings. -/
namespace BB
set_option linter.unusedVariables false
/-- how many are taken, by gaps -/
def tg (s : Nat) : Nat → List Nat → Nat
  | _, [] => 0
  | L, g :: r => if L < s then 1 + tg s (L + 1 - g) r else tg s (L - g) r
/-- how many blocks there are -/
def rn : List Nat → Nat
  | [] => 0
  | 0 :: r => rn r
  | (_ + 1) :: r => 1 + rn r
end BB
end
section
/-! Two carriers, one behind the other: whichever is first. -/
namespace BB
set_option linter.unusedVariables false
set_option maxHeartbeats 4000000
def rU (a b u v : Nat) : Nat := u + min v (a - u) - min (b - v) u
def tk1 (z L : Nat) (b : Bool) : Nat := if b = true ∧ L < z then 1 else 0
/-- how many are taken, box by box -/
def tb (z : Nat) : Nat → List Bool → Nat
  | _, [] => 0
  | L, b :: r => tk1 z L b + tb z (stp z L b).1 r
end BB
end
section
/-! Rings: balls and their partners, round. -/
namespace BB
set_option linter.unusedVariables false
/-- how many are to be laid yet, so many boxes behind b, where S tells which boxes have balls -/
def wk (S : Int → Bool) (b : Int) : Nat → Int
  | 0 => 1
  | d + 1 => wk S b d + if S (b + (d : Int) + 1) = true then 1 else -1
def Pt (S : Int → Bool) (b : Int) (d : Nat) : Prop := wk S b d = 0 ∧ ∀ e, e < d → 0 < wk S b e
theorem wk_row (row : List Int) (b : Int) : ∀ d, wk (fun x => decide (x ∈ row)) b d = wlk row b d
  | 0 => rfl
  | d + 1 => by
    show wk _ b d + _ = wlk row b d + _
    rw [wk_row row b d]
    by_cases c : b + (d : Int) + 1 ∈ row
    · rw [if_pos c, if_pos (decide_eq_true c)]
    · rw [if_neg c, if_neg (fun z => c (of_decide_eq_true z))]
theorem pt_row {row : List Int} {b : Int} {d : Nat} : Pt (fun x => decide (x ∈ row)) b d ↔ Prt row b d := by
  unfold Pt Prt
  simp only [wk_row]
theorem wk_add (S : Int → Bool) (b : Int) (d : Nat) : ∀ e : Nat, wk S b (d + e) = wk S b d + wk S (b + (d : Int)) e - 1
  | 0 => by show wk S b d = wk S b d + 1 - 1; omega
  | e + 1 => by
    show wk S b (d + e) + (if S (b + ((d + e : Nat) : Int) + 1) = true then (1 : Int) else -1) = wk S b d + (wk S (b + (d : Int)) e + (if S (b + (d : Int) + (e : Int) + 1) = true then (1 : Int) else -1)) - 1
    rw [wk_add S b d e, show b + ((d + e : Nat) : Int) + 1 = b + (d : Int) + (e : Int) + 1 by omega]
    generalize (if S (b + (d : Int) + (e : Int) + 1) = true then (1 : Int) else -1) = z
    omega
theorem pt_end {S : Int → Bool} {b : Int} {d : Nat} (h : Pt S b d) : ∃ n, d = n + 1 ∧ wk S b n = 1 ∧ S (b + (d : Int)) = false := by
  cases d with
  | zero => exact absurd h.1 (by show ¬ (1 : Int) = 0; omega)
  | succ n =>
    have a := h.2 n (Nat.lt_succ_self _)
    have e : wk S b n + (if S (b + (n : Int) + 1) = true then (1 : Int) else -1) = 0 := h.1
    refine ⟨n, rfl, ?_⟩
    rw [show b + ((n + 1 : Nat) : Int) = b + (n : Int) + 1 by omega]
    cases c : S (b + (n : Int) + 1)
    · rw [c] at e
      simp at e
      exact ⟨by omega, rfl⟩
    · rw [c] at e
      simp at e
      omega
theorem pt_inj' {S : Int → Bool} {b c : Int} {d e : Nat} (hc : S c = true) (p : Pt S b d) (q : Pt S c e) (h : b + (d : Int) = c + (e : Int)) : ¬ b < c := fun l => by
  obtain ⟨n, hn⟩ : ∃ n : Nat, c = b + (n : Int) + 1 := ⟨(c - b - 1).toNat, by omega⟩
  have hd : d = n + 1 + e := by omega
  have a := p.2 n (by obtain ⟨m, e1, _⟩ := pt_end q; omega)
  have w : wk S b (n + 1) = wk S b n + 1 := by
    show wk S b n + _ = _
    rw [← hn, if_pos hc]
  have z := p.1
  rw [hd, wk_add, w, show b + ((n + 1 : Nat) : Int) = c by omega, q.1] at z
  omega
theorem pt_inj {S : Int → Bool} {b c : Int} {d e : Nat} (hb : S b = true) (hc : S c = true) (p : Pt S b d) (q : Pt S c e) (h : b + (d : Int) = c + (e : Int)) : b = c := by
  have := pt_inj' hc p q h
  have := pt_inj' hb q p h.symm
  omega
end BB
end
section
/-! Pairs within pairs: depths. -/
namespace BB
set_option linter.unusedVariables false
theorem prt_pt {row : List Int} {b : Int} {d : Nat} (h : Prt row b d) : Pt (fun x => decide (x ∈ row)) b d := pt_row.mpr h
/-- a ball that lies ahead of a partner has its own partner ahead of it -/
theorem nest {row : List Int} {b c : Int} {d e : Nat} (hc : c ∈ row) (p : Prt row b d) (q : Prt row c e) (l : b < c) (l2 : c < b + (d : Int)) : c + (e : Int) < b + (d : Int) := by
  have p' := prt_pt p
  have q' := prt_pt q
  apply Int.not_le.mp
  intro z
  obtain ⟨n, hn⟩ : ∃ n : Nat, c = b + (n : Int) + 1 := ⟨(c - b - 1).toNat, by omega⟩
  have a := p'.2 n (by omega)
  have w : wk (fun x => decide (x ∈ row)) b (n + 1) = wk (fun x => decide (x ∈ row)) b n + 1 := by
    show wk _ b n + _ = _
    rw [← hn, if_pos (decide_eq_true hc)]
  obtain ⟨m, hm⟩ : ∃ m, d = n + 1 + m := ⟨d - n - 1, by omega⟩
  have z0 := p'.1
  rw [hm, wk_add, w, show b + ((n + 1 : Nat) : Int) = c by omega] at z0
  have me : m ≤ e := by omega
  rcases Nat.lt_or_ge m e with y | y
  · have := q'.2 m y; omega
  · have : m = e := by omega
    rw [this, q'.1] at z0
    omega
structure Nst (bl : List (Int × Int)) : Prop where
  up : bl.Pairwise fun x y => x.1 < y.1
  lt : ∀ q ∈ bl, q.1 < q.2
  nst : ∀ q ∈ bl, ∀ c ∈ bl, q.1 < c.1 → c.1 < q.2 → c.2 < q.2
  box : ∀ q ∈ bl, ∀ c ∈ bl, q.1 ≠ c.2
  one : ∀ q ∈ bl, ∀ c ∈ bl, q.2 = c.2 → q = c
theorem nst_of {row : List Int} {bl : List (Int × Int)} (e : bl.map (·.1) = row) (up : row.Pairwise (· < ·)) (fd : FD row bl) : Nst bl := by
  have inr : ∀ q ∈ bl, q.1 ∈ row := fun q hq => by rw [← e]; exact List.mem_map_of_mem (f := (·.1)) hq
  have at2 : ∀ q ∈ bl, q.1 + (((q.2 - q.1).toNat : Nat) : Int) = q.2 := fun q hq => by have := (fd q hq).1; omega
  have up' : bl.Pairwise fun x y => x.1 < y.1 := List.pairwise_map.mp (by rw [e]; exact up)
  have box : ∀ q ∈ bl, ∀ c ∈ bl, q.1 ≠ c.2 := fun q hq c hc z => by
    obtain ⟨_, _, _, h⟩ := pt_end (prt_pt (fd c hc).2)
    rw [at2 c hc, ← z] at h
    exact of_decide_eq_false h (inr q hq)
  refine ⟨up', fun q hq => (fd q hq).1, fun q hq c hc l1 l2 => ?_, box, fun q hq c hc z => ?_⟩
  · have := nest (inr c hc) (fd q hq).2 (fd c hc).2 l1 (by rw [at2 q hq]; exact l2)
    rwa [at2 q hq, at2 c hc] at this
  · have h1 := at2 q hq
    have h2 := at2 c hc
    have := pt_inj (decide_eq_true (inr q hq)) (decide_eq_true (inr c hc)) (prt_pt (fd q hq).2) (prt_pt (fd c hc).2) (by omega)
    exact Prod.ext this z
theorem Nst.tail {q : Int × Int} {r : List (Int × Int)} (h : Nst (q :: r)) : Nst r :=
  ⟨(List.pairwise_cons.mp h.up).2, fun x hx => h.lt x (List.mem_cons_of_mem _ hx), fun x hx y hy => h.nst x (List.mem_cons_of_mem _ hx) y (List.mem_cons_of_mem _ hy), fun x hx y hy => h.box x (List.mem_cons_of_mem _ hx) y (List.mem_cons_of_mem _ hy), fun x hx y hy => h.one x (List.mem_cons_of_mem _ hx) y (List.mem_cons_of_mem _ hy)⟩
def mx (l : List Nat) : Nat := l.foldr max 0
theorem le_mx : ∀ {l : List Nat} {x : Nat}, x ∈ l → x ≤ mx l
  | y :: l, x, h => by
    show x ≤ max y (mx l)
    rcases List.mem_cons.mp h with z | z
    · omega
    · have := le_mx z; omega
theorem mx_mem : ∀ l : List Nat, mx l = 0 ∨ mx l ∈ l
  | [] => .inl rfl
  | y :: l => by
    show max y (mx l) = 0 ∨ max y (mx l) ∈ y :: l
    by_cases c : mx l ≤ y
    · rw [Nat.max_eq_left c]; exact .inr List.mem_cons_self
    · rw [Nat.max_eq_right (by omega)]
      rcases mx_mem l with z | z
      · exact .inl z
      · exact .inr (List.mem_cons_of_mem _ z)
/-- how deep a pair is -/
def dep : List (Int × Int) → (Int × Int) → Nat
  | [], _ => 0
  | c :: r, q => if q = c then 1 + mx ((r.filter fun e => decide (e.2 < c.2)).map (dep r)) else dep r q
theorem dep_tail {c q : Int × Int} {r : List (Int × Int)} (h : Nst (c :: r)) (hq : q ∈ r) : dep (c :: r) q = dep r q := by
  have := (List.pairwise_cons.mp h.up).1 q hq
  exact if_neg fun z => by rw [z] at this; omega
theorem dep_head (c : Int × Int) (r : List (Int × Int)) : dep (c :: r) c = 1 + mx ((r.filter fun e => decide (e.2 < c.2)).map (dep r)) := if_pos rfl
theorem dep_pos : ∀ {bl : List (Int × Int)}, Nst bl → ∀ q ∈ bl, 1 ≤ dep bl q
  | c :: r, h, q, hq => by
    rcases List.mem_cons.mp hq with z | z
    · rw [z, dep_head]; omega
    · rw [dep_tail h z]; exact dep_pos h.tail q z
theorem dep_lt : ∀ {bl : List (Int × Int)}, Nst bl → ∀ q ∈ bl, ∀ c ∈ bl, q.1 < c.1 → c.2 < q.2 → dep bl c < dep bl q
  | a :: r, h, q, hq, c, hc, l1, l2 => by
    have hu := (List.pairwise_cons.mp h.up).1
    rcases List.mem_cons.mp hc with zc | zc
    · subst zc
      rcases List.mem_cons.mp hq with zq | zq
      · rw [zq] at l1; omega
      · have := hu q zq; omega
    · rcases List.mem_cons.mp hq with zq | zq
      · rw [zq, dep_head, dep_tail h zc]
        have hm : c ∈ r.filter fun e => decide (e.2 < a.2) := List.mem_filter.mpr ⟨zc, decide_eq_true (zq ▸ l2 : c.2 < a.2)⟩
        have := le_mx (List.mem_map_of_mem (f := dep r) hm)
        omega
      · rw [dep_tail h zc, dep_tail h zq]
        exact dep_lt h.tail q zq c zc l1 l2
theorem dep_ex : ∀ {bl : List (Int × Int)}, Nst bl → ∀ q ∈ bl, 2 ≤ dep bl q → ∃ c ∈ bl, q.1 < c.1 ∧ c.2 < q.2 ∧ dep bl c + 1 = dep bl q
  | a :: r, h, q, hq, h2 => by
    have hu := (List.pairwise_cons.mp h.up).1
    rcases List.mem_cons.mp hq with zq | zq
    · subst zq
      rw [dep_head] at h2 ⊢
      rcases mx_mem ((r.filter fun e => decide (e.2 < q.2)).map (dep r)) with z | z
      · omega
      · obtain ⟨c, hc, e⟩ := List.mem_map.mp z
        obtain ⟨c1, c2⟩ := List.mem_filter.mp hc
        exact ⟨c, List.mem_cons_of_mem _ c1, hu c c1, of_decide_eq_true c2, by rw [dep_tail h c1, e]; omega⟩
    · rw [dep_tail h zq] at h2 ⊢
      obtain ⟨c, c1, c2, c3, c4⟩ := dep_ex h.tail q zq h2
      exact ⟨c, List.mem_cons_of_mem _ c1, c2, c3, by rw [dep_tail h c1]; exact c4⟩
theorem dep_down {bl : List (Int × Int)} (h : Nst bl) (n : Nat) : ∀ (m : Nat) (q : Int × Int), q ∈ bl → dep bl q = n + 1 + m → ∃ c ∈ bl, dep bl c = n + 1
  | 0, q, hq, e => ⟨q, hq, e⟩
  | m + 1, q, hq, e => by
    obtain ⟨c, c1, _, _, c4⟩ := dep_ex h q hq (by omega)
    exact dep_down h n m c c1 (by omega)
/-! marks: balls and boxes in one line -/
def swp (q : Int × Int) : Int × Int := (q.2, q.1)
theorem swp_swp (q : Int × Int) : swp (swp q) = q := rfl
/-- a mark's pair -/
def nrm (z : Int × Int) : Int × Int := if z.1 < z.2 then z else swp z
structure Mks (bl ml : List (Int × Int)) : Prop where
  up : ml.Pairwise fun x y => x.1 < y.1
  mem : ∀ z, z ∈ ml ↔ z ∈ bl ∨ swp z ∈ bl
theorem nrm_mem {bl ml : List (Int × Int)} (h : Nst bl) (m : Mks bl ml) {z : Int × Int} (hz : z ∈ ml) : nrm z ∈ bl ∧ (z = nrm z ∨ z = swp (nrm z)) := by
  unfold nrm
  rcases (m.mem z).mp hz with a | a
  · have := h.lt z a
    rw [if_pos this]
    exact ⟨a, .inl rfl⟩
  · have : z.2 < z.1 := h.lt _ a
    rw [if_neg (by omega)]
    exact ⟨a, .inr rfl⟩
theorem nrm_of {bl : List (Int × Int)} (h : Nst bl) {q : Int × Int} (hq : q ∈ bl) : nrm q = q ∧ nrm (swp q) = q := by
  have := h.lt q hq
  unfold nrm
  exact ⟨if_pos this, if_neg (show ¬ q.2 < q.1 by omega)⟩
/-- those that are left ahead of the nth time -/
def left (bl ml : List (Int × Int)) (n : Nat) : List (Int × Int) := ml.filter fun z => decide (n ≤ dep bl (nrm z))
theorem left_one {bl ml : List (Int × Int)} (h : Nst bl) (m : Mks bl ml) : left bl ml 1 = ml :=
  List.filter_eq_self.mpr fun z hz => decide_eq_true (dep_pos h _ (nrm_mem h m hz).1)
/-- neighbours in a rising line -/
theorem next_in {l : List (Int × Int)} (up : l.Pairwise fun x y => x.1 < y.1) {t : Nat} {a b : Int × Int} (ha : l[t]? = some a) (hb : b ∈ l) (ab : a.1 < b.1) (no : ∀ z ∈ l, a.1 < z.1 → ¬ z.1 < b.1) : l[t + 1]? = some b := by
  obtain ⟨ta, ea⟩ := List.getElem?_eq_some_iff.mp ha
  obtain ⟨s, hs, eb⟩ := List.mem_iff_getElem.mp hb
  have pw := List.pairwise_iff_getElem.mp up
  have ts : t < s := by
    rcases Nat.lt_trichotomy t s with z | z | z
    · exact z
    · subst z; rw [ea] at eb; rw [eb] at ab; omega
    · have := pw s t hs ta z; rw [ea, eb] at this; omega
  have : s = t + 1 := by
    rcases Nat.lt_or_ge (t + 1) s with z | z
    · have t1 : t + 1 < l.length := by omega
      have l1 := pw t (t + 1) ta t1 (by omega)
      have l2 := pw (t + 1) s t1 hs z
      rw [ea] at l1
      rw [eb] at l2
      exact absurd l2 (no _ (List.getElem_mem t1) l1)
    · omega
  subst this
  rw [List.getElem?_eq_getElem hs, eb]
theorem next_no {l : List (Int × Int)} (up : l.Pairwise fun x y => x.1 < y.1) {t : Nat} {a b z : Int × Int} (ha : l[t]? = some a) (hb : l[t + 1]? = some b) (hz : z ∈ l) (az : a.1 < z.1) : ¬ z.1 < b.1 := fun zb => by
  obtain ⟨ta, ea⟩ := List.getElem?_eq_some_iff.mp ha
  obtain ⟨tb, eb⟩ := List.getElem?_eq_some_iff.mp hb
  obtain ⟨s, hs, ez⟩ := List.mem_iff_getElem.mp hz
  have pw := List.pairwise_iff_getElem.mp up
  rcases Nat.lt_trichotomy s t with y | y | y
  · have := pw s t hs ta y; rw [ez, ea] at this; omega
  · subst y; rw [ea] at ez; rw [ez] at az; omega
  · rcases Nat.lt_trichotomy s (t + 1) with w | w | w
    · omega
    · subst w; rw [eb] at ez; rw [ez] at zb; omega
    · have := pw (t + 1) s tb hs w; rw [eb, ez] at this; omega
/-- neighbours that are a pair are as deep as it is the time -/
theorem left_adj {bl ml : List (Int × Int)} (h : Nst bl) (m : Mks bl ml) {n t : Nat} (hn : 1 ≤ n) {a b : Int × Int} (ha : (left bl ml n)[t]? = some a) (hb : (left bl ml n)[t + 1]? = some b) (c : a.2 = b.1) (c2 : a.1 < a.2) : a ∈ bl ∧ dep bl a = n := by
  have up : (left bl ml n).Pairwise fun x y => x.1 < y.1 := m.up.filter _
  obtain ⟨a1, a2⟩ := List.mem_filter.mp (List.mem_of_getElem? ha)
  have na : nrm a = a := if_pos c2
  have am : a ∈ bl := by have := (nrm_mem h m a1).1; rwa [na] at this
  have a2 := of_decide_eq_true a2
  rw [na] at a2
  refine ⟨am, ?_⟩
  rcases Nat.lt_or_ge n (dep bl a) with z | z
  · by_cases n0 : dep bl a = 1
    · omega
    · obtain ⟨e, e1, e2, e3, e4⟩ := dep_ex h a am (by have := dep_pos h a am; omega)
      have el : e ∈ left bl ml n := List.mem_filter.mpr ⟨(m.mem e).mpr (.inl e1), decide_eq_true (by rw [(nrm_of h e1).1]; omega)⟩
      have := next_no up ha hb el e2
      have := h.lt e e1
      omega
  · omega
theorem adj_left {bl ml : List (Int × Int)} (h : Nst bl) (m : Mks bl ml) {n : Nat} {a : Int × Int} (am : a ∈ bl) (e : dep bl a = n) : ∃ t, (left bl ml n)[t]? = some a ∧ (left bl ml n)[t + 1]? = some (swp a) := by
  have up : (left bl ml n).Pairwise fun x y => x.1 < y.1 := m.up.filter _
  have h1 : a ∈ left bl ml n := List.mem_filter.mpr ⟨(m.mem a).mpr (.inl am), decide_eq_true (by rw [(nrm_of h am).1]; omega)⟩
  have h2 : swp a ∈ left bl ml n := List.mem_filter.mpr ⟨(m.mem _).mpr (.inr am), decide_eq_true (by rw [(nrm_of h am).2]; omega)⟩
  obtain ⟨t, ht⟩ := List.getElem?_of_mem h1
  refine ⟨t, ht, next_in up ht h2 (h.lt a am) fun z hz l1 l2 => ?_⟩
  obtain ⟨z1, z2⟩ := List.mem_filter.mp hz
  have z2 := of_decide_eq_true z2
  obtain ⟨zb, zc⟩ := nrm_mem h m z1
  have l2 : z.1 < a.2 := l2
  have inner : a.1 < (nrm z).1 ∧ (nrm z).2 < a.2 := by
    rcases zc with w | w
    · rw [← w] at zb ⊢
      exact ⟨l1, h.nst a am z zb l1 l2⟩
    · have e1 : z.1 = (nrm z).2 := congrArg Prod.fst w
      have e2 : z.2 = (nrm z).1 := by
        have := congrArg Prod.snd w
        exact this
      rw [e1] at l1 l2
      refine ⟨?_, l2⟩
      rcases Int.lt_trichotomy a.1 (nrm z).1 with y | y | y
      · exact y
      · have : nrm z = a := by
          have hp := h.up
          have pw := List.pairwise_iff_getElem.mp hp
          obtain ⟨i, hi, ei⟩ := List.mem_iff_getElem.mp am
          obtain ⟨j, hj, ej⟩ := List.mem_iff_getElem.mp zb
          rcases Nat.lt_trichotomy i j with x | x | x
          · have := pw i j hi hj x; rw [ei, ej] at this; omega
          · subst x; rw [← ei, ← ej]
          · have := pw j i hj hi x; rw [ei, ej] at this; omega
        rw [this] at l2
        omega
      · have := h.nst (nrm z) zb a am y (by omega)
        omega
  have := dep_lt h a am (nrm z) zb inner.1 inner.2
  omega
theorem left_next {bl ml : List (Int × Int)} (n : Nat) : (left bl ml n).filter (fun z => decide (dep bl (nrm z) ≠ n)) = left bl ml (n + 1) := by
  unfold left
  rw [List.filter_filter]
  refine List.filter_congr fun z _ => ?_
  rw [Bool.eq_iff_iff, Bool.and_eq_true, decide_eq_true_iff, decide_eq_true_iff, decide_eq_true_iff]
  omega
/-- each time some go out -/
theorem left_less {bl ml : List (Int × Int)} (h : Nst bl) (m : Mks bl ml) {n : Nat} (ne : left bl ml (n + 1) ≠ []) : (left bl ml (n + 2)).length < (left bl ml (n + 1)).length := by
  obtain ⟨z, hz⟩ := List.exists_mem_of_ne_nil _ ne
  obtain ⟨z1, z2⟩ := List.mem_filter.mp hz
  have z2 := of_decide_eq_true z2
  obtain ⟨c, c1, c2⟩ := dep_down h n (dep bl (nrm z) - (n + 1)) (nrm z) (nrm_mem h m z1).1 (by omega)
  have hc : c ∈ left bl ml (n + 1) := List.mem_filter.mpr ⟨(m.mem c).mpr (.inl c1), decide_eq_true (by rw [(nrm_of h c1).1]; omega)⟩
  rw [← left_next (n + 1)]
  generalize left bl ml (n + 1) = l at hc
  have lt : ∀ (l : List (Int × Int)), c ∈ l → (l.filter fun z => decide (dep bl (nrm z) ≠ n + 1)).length < l.length := fun l => by
    induction l with
    | nil => intro x; cases x
    | cons y l ih =>
      intro hy
      rw [List.filter_cons, List.length_cons]
      rcases List.mem_cons.mp hy with w | w
      · rw [if_neg (by rw [← w, (nrm_of h c1).1]; simpa using c2)]
        have := List.length_filter_le (fun z => decide (dep bl (nrm z) ≠ n + 1)) l
        omega
      · have := ih w
        split
        · rw [List.length_cons]; omega
        · omega
  exact lt l hc
end BB
end
section
/-! How many pairs are how deep: what is peeled off. -/
namespace BB
set_option linter.unusedVariables false
def shf (g : Nat) (u : Nat → Nat) : Nat → Nat := fun m => if m < g then 0 else u (m - g)
def psh (w : Nat → Nat) : Nat → Nat
  | 0 => max (1 + w 0) (w 1)
  | n + 1 => w (n + 2)
/-- how deep it goes at most, between the boxes that stay free -/
def uU : List Nat → Nat → Nat
  | [] => fun _ => 0
  | g :: r => psh (shf g (uU r))
def dD : List Nat → List Nat
  | [] => []
  | g :: r => (1 + shf g (uU r) 0) :: dD r
/-! the pairs of a word -/
end BB
end
section
/-! Counts of depths are what goes out, time by time. -/
namespace BB
set_option linter.unusedVariables false
end BB
end
section
/-! list.count of ints. -/
namespace L2
open PySem PySem.Spec PyProof.Rows
set_option maxHeartbeats 4000000
set_option maxRecDepth 100000
set_option Elab.async false
set_option linter.unusedVariables false
section
variable {X : Cx}
end
end L2
end
section
/-! reversed(l) of a list. -/
namespace L2
open PySem PySem.Spec PyProof.Rows
set_option maxHeartbeats 4000000
set_option maxRecDepth 100000
set_option Elab.async false
set_option linter.unusedVariables false
/-- a list walked from its end -/
def Itw (K : PySem.W.Frag) (a : Addr) (n : Nat) : It where
  go := fun i H => ∃ xs x, SqL K H a xs ∧ xs.length = n ∧ xs.reverse[i]? = some x
  yld := fun i H x H' => H' = H ∧ ∀ xs, SqL K H a xs → xs.length = n → xs.reverse[i]? = some x
  stop := fun i H => n ≤ i
theorem turn_revL {P : Program} {w : World} {K : PySem.W.Frag} {tg : Expr} (a it : Addr) (n : Nat) : Turn P w K tg (Itw K a n) [it] it (fun i h => i ≤ n ∧ h.IsRevIter it a ((n : Int) - 1 - (i : Int))) where
  mem := by simp
  obj := fun i h st b hb => by
    have e : b = it := by simpa using hb
    subst e
    obtain ⟨_, o, h1, _, h3⟩ := st
    exact ⟨o, h1, fun v z => by rw [h3] at z; cases z⟩
  keep := fun i h h' st k => ⟨st.1, st.2.at fun o e => k it (by simp) o e⟩
  item := by
    intro X hP hw hK hc i pins s σ H E I hf st hg
    subst hP hw hK
    obtain ⟨xs, x, hq, hn, hx⟩ := hg
    obtain ⟨its, rv, p, hz⟩ := I.list hq
    have hlen := rv.length
    have hi : i < xs.length := by
      have := (List.getElem?_eq_some_iff.mp hx).1
      simpa using this
    rw [List.getElem?_reverse hi] at hx
    obtain ⟨u, hu, ru⟩ := rv.get hx
    obtain ⟨f0, f1, f2, f3, f4, f5⟩ := hf it (by simp)
    have ei : (n : Int) - 1 - (i : Int) = ((xs.length - 1 - i : Nat) : Int) := by omega
    have st2 := st.2
    rw [ei] at st2
    refine wpAny_pyNext_rev_item st2 p.isList (x := u) (by simpa using hu) fun h' st' sb => ?_
    have I1 : Inv X pins σ H { s with heap := h' } := I.turned (t' := s.toks) (fun b o hb e => (sb.2 b hb).trans e) f0 f1 f3 f4 f5
    have e2 : (n : Int) - 1 - ((i + 1 : Nat) : Int) = ((xs.length - 1 - i : Nat) : Int) - 1 := by omega
    obtain ⟨o, g1, g2, g3⟩ := id st'
    refine ⟨u, rfl, go_of (s := { s with heap := h' }) (n := "list_reverseiterator") g1 g2 g3 (by decide) ⟨x, H, I1, ru, ⟨rfl, fun ys hy _ => by rw [I.list_inj hy hq, List.getElem?_reverse hi]; exact hx⟩, ⟨by omega, ?_⟩, fun b hb => (hf b hb).1⟩⟩
    rw [e2]
    exact st'
  done := by
    intro X hP hw hK hc i pins s σ H E I hf st hg
    subst hP hw hK
    obtain ⟨f0, f1, f2, f3, f4, f5⟩ := hf it (by simp)
    have en : (n : Int) - 1 - (i : Int) = -1 := by have : n ≤ i := hg; have := st.1; omega
    have st2 := st.2
    rw [en] at st2
    exact wpAny_pyNext_rev_end (I.ok.hd hc) st2 fun h' eb => ⟨rfl, I.turned (t' := s.toks) (fun b o hb e => eb b o hb e) f0 f1 f3 f4 f5⟩
  self := fun _ _ _ _ _ st h => wpAny_pyIter_revIter st.2 h
section
variable {X : Cx} {tg : Expr}
def iRevL (K : PySem.W.Frag) (ta : TA) : TI := fun σ H R => ta σ H fun vs H1 => ∃ a xs, vs = [.ref a] ∧ SqL K H1 a xs ∧ R (Itw K a xs.length) H1
theorem pi_revL {a : Expr} {ta : TA} {p pos : Pos} (hg : Gl X "reversed") (hm : X.mg "reversed" = none) (ha : PA X [a] ta) (hs : starEach [a] X.env = [(false, eval a X.env)] := by rfl) :
    PI X tg (.Call (.Name "reversed" p) [a] [] pos) (iRevL X.K ta) := by
  intro pins s σ H R I h
  refine Call_ (ld_blt I hg hm boot_reversed (PyProof.Rows.callWith_type1 (thn (ha pos pins s σ H _ I h) fun us s1 ⟨vs, H1, I1, r1, q1⟩ => ?_) (by rw [hs]; rfl) (by rfl)))
  obtain ⟨t, xs, e, hl, q⟩ := q1
  subst e
  obtain ⟨u, rfl, ru⟩ := vals1 r1
  cases (show u = Value.ref t from ru)
  obtain ⟨its, rv, p, hz⟩ := I1.list hl
  have hlen := rv.length
  refine call_reversed_list p.isList ?_
  have I2 : Inv X pins σ H1 { s1 with heap := s1.heap.push (revObj t ((its.toArray.size : Int) - 1)) } := I1.kept (t' := s1.toks) fun b o e => Heap.get?_push_of_some _ e
  have e0 : (s1.heap.push (revObj t ((its.toArray.size : Int) - 1))).IsRevIter s1.heap.objs.size t ((its.toArray.size : Int) - 1) := ⟨_, Heap.get?_push_size _ rfl, rfl, rfl⟩
  refine wpAny_pyIter_revIter e0 ⟨s1.heap.objs.size, [s1.heap.objs.size], _, _, H1, rfl, I2, turn_revL t _ xs.length, ⟨Nat.zero_le _, ?_⟩, fun b hb => ?_, q⟩
  · have e3 : ((xs.length : Nat) : Int) - 1 - ((0 : Nat) : Int) = (its.toArray.size : Int) - 1 := by simp only [List.size_toArray]; omega
    rw [e3]
    exact e0
  · have e : b = s1.heap.objs.size := by simpa using hb
    subst e
    exact I1.fpOk (Nat.le_refl _) (I1.hok.fresh (Nat.le_refl _))
end
theorem items_revL {K : PySem.W.Frag} {a : Addr} {xs : List V} {H1 : Hp} (h : H1 a = some (.lst xs)) (i : Nat) (H : Hp) (s : Same H1 H) :
    (i < xs.length → (Itw K a xs.length).go i H ∧ ∀ x H2, (Itw K a xs.length).yld i H x H2 → Same H H2 ∧ xs.reverse[i]? = some x) ∧ (xs.length ≤ i → (Itw K a xs.length).stop i H) := by
  have q : SqL K H a xs := SqL.of (s _ _ h)
  refine ⟨fun hi => ⟨⟨xs, xs.reverse[i]'(by simpa using hi), q, rfl, List.getElem?_eq_getElem _⟩, fun x H2 ⟨e, y⟩ => ?_⟩, fun hi => hi⟩
  subst e
  exact ⟨Same.refl _, y xs q rfl⟩
end L2
end
section
/-! max(l, default=0) of a list of ints; l[::-1]. -/
namespace L2
open PySem PySem.Spec PyProof.Rows
set_option maxHeartbeats 4000000
set_option maxRecDepth 100000
set_option Elab.async false
abbrev mdA (I S : Addr) (d : Value) : Args := ⟨[.ref I, .none, .ref S], [("default", d)]⟩
section
variable {prog : Program} {w : World} {A : Around} {E : Value → Shared → Prop} {s : Shared} {I S : Addr} {d : Value} {c : Nat} {Q : PySem.Fin → Shared → Prop} {PN : Value → Sem (Option Value)}
theorem md_end (hS : s.heap.get? S = some { cls := .type "list", data := .seq #[] c })
    (hn : ∀ {Q : Option Value → Shared → Prop} {E : Value → Shared → Prop}, (∀ h', (∀ b o, b ≠ I → s.heap.get? b = some o → h'.get? b = some o) → Q none { s with heap := h' }) → wpAny (model prog w) A (PN (.ref I)) Q E s)
    (q : ∀ h', (∀ b o, b ≠ I → s.heap.get? b = some o → h'.get? b = some o) → Q (.done (.ret d)) { s with heap := h' }) (e : PN = pyNext) :
    wpAny (model prog w) A (Builtin.«max.loop» (mdA I S d)) Q E s := by
  obtain ⟨hp, g, dr, tk, os⟩ := s
  show wpAny _ A (seqItems? (.ref S) >>= _) _ _ _
  rw [← e]
  wp_walk
  refine wpAny_tryCatch (hn fun h' k => ?_)
  wp_walk
  exact q _ k
theorem md_last {v : Value} (hS : s.heap.get? S = some { cls := .type "list", data := .seq #[v, v] c }) (hSI : S ≠ I)
    (hn : ∀ {Q : Option Value → Shared → Prop} {E : Value → Shared → Prop}, (∀ h', (∀ b o, b ≠ I → s.heap.get? b = some o → h'.get? b = some o) → Q none { s with heap := h' }) → wpAny (model prog w) A (PN (.ref I)) Q E s)
    (q : ∀ h', (∀ b o, b ≠ I → b ≠ S → s.heap.get? b = some o → h'.get? b = some o) → Q (.done (.ret v)) { s with heap := h' }) (e : PN = pyNext) :
    wpAny (model prog w) A (Builtin.«max.loop» (mdA I S d)) Q E s := by
  obtain ⟨hp, g, dr, tk, os⟩ := s
  show wpAny _ A (seqItems? (.ref S) >>= _) _ _ _
  rw [← e]
  wp_walk
  refine wpAny_tryCatch (hn fun h' k => ?_)
  have hS' := k S _ hSI hS
  wp_walk
  exact q _ fun b o n1 n2 x => (Heap.get?_update_other _ _ (Ne.symm n2)).trans (k b o n1 x)
theorem md_first {v : Value} {Z : Heap → Prop} (hZ : ∀ h f, Z h → Z (h.update S f)) (hS : s.heap.get? S = some { cls := .type "list", data := .seq #[] c }) (hSI : S ≠ I)
    (hn : ∀ {Q : Option Value → Shared → Prop} {E : Value → Shared → Prop}, (∀ h', Z h' → (∀ b o, b ≠ I → s.heap.get? b = some o → h'.get? b = some o) → Q (some v) { s with heap := h' }) → wpAny (model prog w) A (PN (.ref I)) Q E s) (e : PN = pyNext)
    (q : ∀ h' c', Z h' → (∀ b o, b ≠ I → b ≠ S → s.heap.get? b = some o → h'.get? b = some o) → h'.get? S = some { cls := .type "list", data := .seq #[v, v] c' } → Q (.again (.builtin "max.loop" (mdA I S d))) { s with heap := h' }) :
    wpAny (model prog w) A (Builtin.«max.loop» (mdA I S d)) Q E s := by
  obtain ⟨hp, g, dr, tk, os⟩ := s
  show wpAny _ A (seqItems? (.ref S) >>= _) _ _ _
  rw [← e]
  wp_walk
  refine wpAny_tryCatch (hn fun h' z k => ?_)
  have hS' := k S _ hSI hS
  have nm : (toString "max" ++ toString ".loop" : String) = "max.loop" := by decide
  wp_walk
  rw [nm]
  exact q _ _ (hZ _ _ z) (fun b o n1 n2 x => (Heap.get?_update_other _ _ (Ne.symm n2)).trans (k b o n1 x)) (Heap.get?_update_self _ hS' rfl)
theorem md_more {m x : Int} {t u : Tok} {Z : Heap → Prop} (hZ : ∀ h f, Z h → Z (h.update S f)) (hS : s.heap.get? S = some { cls := .type "list", data := .seq #[.int m t, .int m t] c }) (hSI : S ≠ I)
    (hn : ∀ {Q : Option Value → Shared → Prop} {E : Value → Shared → Prop}, (∀ h', Z h' → (∀ b o, b ≠ I → s.heap.get? b = some o → h'.get? b = some o) → Q (some (.int x u)) { s with heap := h' }) → wpAny (model prog w) A (PN (.ref I)) Q E s) (e : PN = pyNext)
    (q : ∀ h' tk c' t', Z h' → (∀ b o, b ≠ I → b ≠ S → s.heap.get? b = some o → h'.get? b = some o) → h'.get? S = some { cls := .type "list", data := .seq #[.int (if x > m then x else m) t', .int (if x > m then x else m) t'] c' } → Q (.again (.builtin "max.loop" (mdA I S d))) { s with heap := h', toks := tk }) :
    wpAny (model prog w) A (Builtin.«max.loop» (mdA I S d)) Q E s := by
  obtain ⟨hp, g, dr, tk, os⟩ := s
  show wpAny _ A (seqItems? (.ref S) >>= _) _ _ _
  rw [← e]
  wp_walk
  refine wpAny_tryCatch (hn fun h' z k => ?_)
  have hS' := k S _ hSI hS
  have nm : (toString "max" ++ toString ".loop" : String) = "max.loop" := by decide
  have cmp : ∀ {s : Shared} {Q : Value → Shared → Prop} {E : Value → Shared → Prop}, Q (.bool (decide (x > m))) s → wpAny (model prog w) A (richCompare .Gt (.int x u) (.int m t)) Q E s := fun {s Q E} h =>
    CmpOf.ints_gt (P := fun i v => v = if i = 0 then .int x u else .int m t) (fun i => if i = 0 then x else m) (fun i v hv => by subst hv; by_cases z : i = 0 <;> simp [z]) 0 1 _ _ s Q E rfl rfl h
  generalize hRC : richCompare = RC at cmp ⊢
  wp_walk using cmp
  refine wpAny_tryCatch ?_
  by_cases gt : x > m
  · rw [decide_eq_true gt] at cmp
    rw [if_pos gt] at q
    wp_walk using cmp
    rw [nm]
    exact q _ _ _ _ (hZ _ _ z) (fun b o n1 n2 x => (Heap.get?_update_other _ _ (Ne.symm n2)).trans (k b o n1 x)) (Heap.get?_update_self _ hS' rfl)
  · rw [decide_eq_false gt] at cmp
    rw [if_neg gt] at q
    wp_walk using cmp
    rw [nm]
    exact q _ _ _ _ z (fun b o n1 _ x => k b o n1 x) hS'
theorem md_go {l : Addr} {ns : List Int} {vs : List Value} (hh : A.handled = none) (hI : IntsAre vs ns) (lI : l ≠ I) (lS : l ≠ S) (SI : S ≠ I) {R : Result → Shared → Prop} : ∀ (k j : Nat) (s : Shared), vs.length - j = k → j ≤ vs.length → s.heap.IsListIter I l j → s.heap.IsList l vs.toArray →
    ((j = 0 ∧ ∃ c, s.heap.get? S = some { cls := .type "list", data := .seq #[] c }) ∨ (0 < j ∧ ∃ c m t, s.heap.get? S = some { cls := .type "list", data := .seq #[.int m t, .int m t] c } ∧ m ∈ ns.take j ∧ ∀ x ∈ ns.take j, x ≤ m)) →
    (∀ v h' tk, ((ns = [] ∧ v = d) ∨ ∃ m t, v = .int m t ∧ m ∈ ns ∧ ∀ x ∈ ns, x ≤ m) → (∀ b o, b ≠ I → b ≠ S → s.heap.get? b = some o → h'.get? b = some o) → R (.ok (.ret v)) { s with heap := h', toks := tk }) →
    codeAny (model prog w) A (.builtin "max.loop" (mdA I S d)) R s := by
  have ln : vs.length = ns.length := IntsAre.length hI
  intro k
  induction k with
  | zero =>
    intro j s hk hj it hl st hR
    have ej : j = vs.length := by omega
    refine codeAny_builtin F.entry_max_loop ?_
    rw [Around.under_plainId F.plain_max_loop _]
    have nx : ∀ {Q : Option Value → Shared → Prop} {E : Value → Shared → Prop}, (∀ h', (∀ b o, b ≠ I → s.heap.get? b = some o → h'.get? b = some o) → Q none { s with heap := h' }) → wpAny (model prog w) A.in1 (pyNext (.ref I)) Q E s := fun {Q E} h =>
      wpAny_pyNext_list_end (by simpa using hh) it hl (by rw [ej]; simp) fun h' ext => h h' fun b o n e => ext b o n e
    rcases st with ⟨z, c, hS⟩ | ⟨z, c, m, t, hS, h1, h2⟩
    · refine md_end hS nx (fun h' kp => ?_) rfl
      exact hR d h' s.toks (.inl ⟨List.length_eq_zero_iff.mp (by omega), rfl⟩) fun b o n1 _ e => kp b o n1 e
    · refine md_last hS SI nx (fun h' kp => ?_) rfl
      rw [List.take_of_length_le (by omega)] at h1 h2
      exact hR _ h' s.toks (.inr ⟨m, t, rfl, h1, h2⟩) kp
  | succ k ih =>
    intro j s hk hj it hl st hR
    have jl : j < vs.length := by omega
    have jn : j < ns.length := by omega
    obtain ⟨u, hu⟩ := IntsAre.int_at hI j _ (List.getElem?_eq_getElem jl)
    have hx : vs.toArray[j]? = some (.int (ns.getD j 0) u) := by
      rw [← hu]
      simp [jl]
    have ex : ns.take (j + 1) = ns.take j ++ [ns.getD j 0] := by
      rw [List.take_add_one, List.getElem?_eq_getElem jn, List.getD_eq_getElem?_getD, List.getElem?_eq_getElem jn]
      rfl
    refine codeAny_builtin F.entry_max_loop ?_
    rw [Around.under_plainId F.plain_max_loop _]
    have nx : ∀ {Q : Option Value → Shared → Prop} {E : Value → Shared → Prop}, (∀ h', h'.IsListIter I l (j + 1) → (∀ b o, b ≠ I → s.heap.get? b = some o → h'.get? b = some o) → Q (some (.int (ns.getD j 0) u)) { s with heap := h' }) → wpAny (model prog w) A.in1 (pyNext (.ref I)) Q E s := fun {Q E} h =>
      wpAny_pyNext_list_item it hl hx fun h' it' sb => h h' it' fun b o n e => (sb.2 b n).trans e
    have hZ : ∀ (h : Heap) (f : Obj → Obj), h.IsListIter I l (j + 1) → (h.update S f).IsListIter I l (j + 1) := fun h f z => by
      obtain ⟨o, h1, h2, h3⟩ := z
      exact ⟨o, (Heap.get?_update_other _ _ SI).trans h1, h2, h3⟩
    have go : ∀ (h' : Heap) (tk c' : Nat) (m : Int) (t : Tok), h'.IsListIter I l (j + 1) → (∀ b o, b ≠ I → b ≠ S → s.heap.get? b = some o → h'.get? b = some o) → h'.get? S = some { cls := .type "list", data := .seq #[.int m t, .int m t] c' } → m ∈ ns.take (j + 1) → (∀ x ∈ ns.take (j + 1), x ≤ m) →
        codeAny (model prog w) A (.builtin "max.loop" (mdA I S d)) R { s with heap := h', toks := tk } := fun h' tk c' m t it' kp hS' h1 h2 => by
      refine ih (j + 1) _ (by omega) (by omega) it' ?_ (.inr ⟨Nat.succ_pos j, c', m, t, hS', h1, h2⟩) fun v h2' tk' hv kp' => hR v h2' tk' hv fun b o n1 n2 e => kp' b o n1 n2 (kp b o n1 n2 e)
      obtain ⟨o, g1, g2⟩ := hl
      exact ⟨o, kp l o lI lS g1, g2⟩
    rcases st with ⟨z, c, hS⟩ | ⟨z, c, m, t, hS, h1, h2⟩
    · subst z
      refine md_first hZ hS SI nx rfl fun h' c' zz kp hS' => ⟨plainId_quiet F.plain_max_loop _, go h' s.toks c' _ u zz kp hS' ?_ ?_⟩
      · rw [ex]; simp
      · rw [ex]; intro y hy; simp at hy; rw [hy, List.getD_eq_getElem?_getD]; exact Int.le_refl _
    · refine md_more hZ hS SI nx rfl fun h' tk c' t' zz kp hS' => ⟨plainId_quiet F.plain_max_loop _, go h' tk c' _ t' zz kp hS' ?_ ?_⟩
      · rw [ex]
        split
        · exact List.mem_append_right _ (List.mem_singleton.mpr rfl)
        · exact List.mem_append_left _ h1
      · rw [ex]
        intro y hy
        rcases List.mem_append.mp hy with w | w
        · have := h2 y w
          split <;> omega
        · rw [List.mem_singleton] at w
          split <;> omega
end
end L2
end
section
namespace L2
open PySem PySem.Spec PyProof.Rows
set_option maxHeartbeats 4000000
set_option maxRecDepth 100000
set_option Elab.async false
section
variable {prog : Program} {w : World} {A : Around} {E : Value → Shared → Prop} {s : Shared}
theorem md_chk (a v : Value) : checkBuiltinCall "max" ⟨[a], [("default", v)]⟩ = pure () := by kernel_rfl
theorem md_call {l : Addr} {ns : List Int} {vs : List Value} {d : Value} {Q : Value → Shared → Prop} (hh : A.handled = none) (hl : s.heap.IsList l vs.toArray) (hI : IntsAre vs ns)
    (q : ∀ v h' tk, ((ns = [] ∧ v = d) ∨ ∃ m t, v = .int m t ∧ m ∈ ns ∧ ∀ x ∈ ns, x ≤ m) → (∀ b o, s.heap.get? b = some o → h'.get? b = some o) → Q v { s with heap := h', toks := tk }) :
    wpAny (model prog w) A (call (.builtin "max") [.ref l] [("default", d)]) Q E s := by
  refine wpAny_call (codeAny_call_builtin F.plain_max F.entry_max ?_)
  rw [md_chk]
  refine wpAny_pure ?_
  have nm : (toString "max" ++ toString ".loop" : String) = "max.loop" := by decide
  have bp : Builtin.Builtins.bindParams "max" ["key", "default"] 0 ⟨[], [("default", d)]⟩ = pure [none, some d] := by first | rfl | kernel_rfl
  show wpAny _ A.in1 (Builtin.Builtins.bindParams "max" ["key", "default"] 0 ⟨[], [("default", d)]⟩ >>= _) _ _ s
  rw [bp]
  refine wpAny_bind (wpAny_pure (wpAny_bind (wpAny_pure (wpAny_bind (wpAny_pyIter_list hl (wpAny_bind (wpAny_newObj_type ?_)))))))
  rw [nm]
  obtain ⟨o, g1, g2⟩ := id hl
  have lt := Heap.lt_size g1
  have sz : (s.heap.push { cls := .type "list_iterator", data := .fields #[.ref l, .int 0 0] }).objs.size = s.heap.objs.size + 1 := Heap.size_push ..
  refine wpAny_pure ⟨plainId_quiet F.plain_max_loop _, md_go (I := s.heap.objs.size) (S := (s.heap.push { cls := .type "list_iterator", data := .fields #[.ref l, .int 0 0] }).objs.size) (d := d) (l := l) (ns := ns) (vs := vs) hh hI (Nat.ne_of_lt lt) (by rw [sz]; exact Nat.ne_of_lt (Nat.lt_succ_of_lt lt)) (by rw [sz]; exact Nat.succ_ne_self _) vs.length 0 _ rfl (Nat.zero_le _) ?_ ?_ (.inl ⟨rfl, 0, ?_⟩) fun v h' tk hv kp => ?_⟩
  · exact ⟨_, Heap.get?_push_of_some _ (Heap.get?_push_size _ rfl), rfl, rfl⟩
  · exact ⟨o, Heap.get?_push_of_some _ (Heap.get?_push_of_some _ g1), g2⟩
  · exact Heap.get?_push_size _ rfl
  · refine q v h' tk hv fun b o e => kp b o (Nat.ne_of_lt (Heap.lt_size e)) (by rw [sz]; exact Nat.ne_of_lt (Nat.lt_succ_of_lt (Heap.lt_size e))) (Heap.get?_push_of_some _ (Heap.get?_push_of_some _ e))
end
section
variable {X : Cx} {e : Expr} {t : TA}
def tMaxD (K : PySem.W.Frag) (t : TA) : TE := fun σ H Q => t σ H fun vs H1 => ∃ (p : Addr) (ns : List Int), vs = [.ref p] ∧ SqL K H1 p (ns.map V.int) ∧ ∀ m, ((ns = [] ∧ m = 0) ∨ (m ∈ ns ∧ ∀ x ∈ ns, x ≤ m)) → Q (.int m) H1
/-- max(l, default=0) -/
theorem pe_maxD {p kp kv pos : Pos} {k : Nat} (hc : X.calm = true) (hg : Gl X "max") (hm : X.mg "max" = none) (ha : PA X [e] t)
    (he : starEach [e] X.env = [(false, eval e X.env)] := by rfl) (hpl : (backTo pos (starEach [e] X.env)).any (·.1) = false := by rfl) :
    PE X (.Call (.Name "max" p) [e] [⟨some "default", .Constant (.int 0) k kv, kp⟩] pos) (tMaxD X.K t) := by
  intro pins s σ H Q I h
  refine wpAny_Call_Name_kw (ld_blt I hg hm boot_max ?_ (by decide) (by decide))
  refine callWith_kw (thn (ha pos pins s σ H _ I h) fun us s1 ⟨vs, H1, I1, r1, q1⟩ => ?_) (by rw [he]; rfl) hpl rfl rfl
  obtain ⟨l, ns, e1, hl, q⟩ := q1
  subst e1
  obtain ⟨u, rfl, ru⟩ := vals1 r1
  cases (show u = Value.ref l from ru)
  refine kws_cons (thn (pe_int (X := X) pins s1 σ H1 (fun v H2 => H2 = H1 ∧ v = .int 0) I1 ⟨rfl, rfl⟩) fun v0 s2 ⟨y, H2, I2, r2, e2, e3⟩ => kws_nil ?_)
  subst e2 e3
  obtain ⟨tk0, rfl⟩ := (show ∃ t, v0 = Value.int 0 t from r2)
  obtain ⟨its, rv, pl, hz⟩ := I2.list hl
  have ln : its.length = ns.length := by have := rv.length; rw [List.length_map] at this; exact this.symm
  have hI : IntsAre its ns := by
    refine intsAre_of (vals_of _ _ ln fun j u hj => ?_)
    have jl : j < ns.length := by rw [← ln]; exact (List.getElem?_eq_some_iff.mp hj).1
    obtain ⟨v, e4, rv'⟩ := rv.get (show (ns.map V.int)[j]? = some (.int ns[j]) by rw [List.getElem?_map, List.getElem?_eq_getElem jl]; rfl)
    rw [hj] at e4
    cases e4
    obtain ⟨t, e5⟩ := (show ∃ t, u = Value.int ns[j] t from rv')
    exact ⟨t, ns[j], List.getElem?_eq_getElem jl, e5⟩
  refine md_call (I2.ok.hd hc) pl.isList hI fun v h' tk hv kp => ?_
  rcases hv with ⟨n0, rfl⟩ | ⟨m, t, rfl, h1, h2⟩
  · exact ⟨.int 0, H2, I2.kept kp, ⟨_, rfl⟩, q 0 (.inl ⟨n0, rfl⟩)⟩
  · exact ⟨.int m, H2, I2.kept kp, ⟨_, rfl⟩, q m (.inr ⟨h1, h2⟩)⟩
/-- l[::-1]: a new list -/
def tRevL (K : PySem.W.Frag) (te : TE) : TE := fun σ H Q => te σ H fun x H1 => ∃ a xs, x = .ref a ∧ SqL K H1 a xs ∧ ∀ p, H1 p = none → Q (.ref p) (upd H1 p (.lst xs.reverse))
theorem pe_revL {te : TE} {k : Nat} {p1 p2 p3 pos : Pos} (he : PE X e te) : PE X (.Subscript e (.Slice none none (some (.UnaryOp .USub (.Constant (.int 1) k p1) p2)) p3) pos) (tRevL X.K te) := by
  intro pins s σ H Q I h
  refine Subscript_ (thn (he pins s σ H _ I h) fun v s1 ⟨x, H1, I1, r1, q1⟩ => ?_)
  obtain ⟨a, xs, rfl, hx, q⟩ := q1
  cases (show v = Value.ref a from r1)
  refine wpAny_Slice ?_
  rw [evalPart_none]
  refine wpAny_pure (wpAny_pure ?_)
  rw [evalPart_some]
  refine thn (pe_un un_neg pe_int pins s1 σ H1 (fun w H2 => H2 = H1 ∧ w = .int (-1)) I1 ⟨1, rfl, rfl, rfl⟩) fun u s2 ⟨y, H2, I2, r2, e2, e3⟩ => ?_
  subst e2 e3
  obtain ⟨tk, rfl⟩ := (show ∃ t, u = Value.int (-1) t from r2)
  have I3 : Inv X pins σ H2 { s2 with heap := s2.heap.push { cls := .type "slice", data := .fields #[.none, .none, .int (-1) tk] } } := I2.kept (t' := s2.toks) fun b ob q => Heap.get?_push_of_some _ q
  obtain ⟨its, r, ht, hz⟩ := I3.list hx
  have hlen := r.length
  refine tail_any (ops := [.ref a, .ref s2.heap.objs.size]) ht.isList.typeIs slot_list_getitem.lookup (wpAny_getItem_list_slice ht.isList (Heap.IsSliceOf.new ..) .none .none (.int _ _) (by simp) ?_ (by rw [List.size_toArray]; omega)) (by with_unfolding_all rfl)
  rw [PySem.W.krv_pick]
  refine ⟨.ref _, _, I3.laid (t' := s2.toks) (o := .lst xs.reverse) (fun b ob q => Heap.get?_push_of_some _ q) (Nat.le_refl _) ?_, rfl, q _ (I3.hok.fresh (Nat.le_refl _))⟩
  exact ⟨by rw [List.length_reverse]; exact hz, _, 0, r.reverse, Heap.get?_push_size _ rfl⟩
end
end L2
end
section
namespace K42
open PySem PySem.Spec PyProof.Rows L2
set_option maxHeartbeats 4000000
set_option Elab.async false
set_option linter.unusedVariables false
def top (i : Nat) : Stmt := PySem.Challenge.pw_boxballs_k42_depths_of_pairs.main.body.getD i (.Pass ⟨0, 0, 0, 0⟩)
abbrev s_pairs : Stmt := top 1
theorem sc_pairs : FnScope ["row", "found", "held", "box", "place"] ["row"] (defScope s_pairs) := ⟨rfl, rfl, rfl, by decide +kernel, rfl, by decide +kernel, by decide +kernel⟩
abbrev s_depths : Stmt := top 2
theorem sc_depths : FnScope ["row", "told", "inner", "ball", "box", "depth"] ["row"] (defScope s_depths) := ⟨rfl, rfl, rfl, by decide +kernel, rfl, by decide +kernel, by decide +kernel⟩
abbrev s_L_cell_at : Stmt := top 4
theorem sc_L_cell_at : FnScope ["_law_script", "_law_k"] ["_law_script", "_law_k"] (defScope s_L_cell_at) := ⟨rfl, rfl, rfl, by decide +kernel, rfl, by decide +kernel, by decide +kernel⟩
abbrev s_L_state : Stmt := top 5
theorem sc_L_state : FnScope ["_law_script", "_law_k", "_law_cell"] ["_law_script", "_law_k"] (defScope s_L_state) := ⟨rfl, rfl, rfl, by decide +kernel, rfl, by decide +kernel, by decide +kernel⟩
abbrev s_L_take : Stmt := top 6
theorem sc_L_take : FnScope ["_law_state_here", "_law_many", "_law_found", "_law_mixed"] ["_law_state_here", "_law_many"] (defScope s_L_take) := ⟨rfl, rfl, rfl, by decide +kernel, rfl, by decide +kernel, by decide +kernel⟩
abbrev s_L_row : Stmt := top 7
theorem sc_L_row : FnScope ["_law_state_here", "_law_first", "_law_wide", "_law_far", "_law_found", "_law_here", "_law_turn"] ["_law_state_here"] (defScope s_L_row) := ⟨rfl, rfl, rfl, by decide +kernel, rfl, by decide +kernel, by decide +kernel⟩
abbrev s_L_partner : Stmt := top 8
theorem sc_L_partner : FnScope ["_law_row_here", "_law_ball", "_law_here", "_law_many"] ["_law_row_here", "_law_ball"] (defScope s_L_partner) := ⟨rfl, rfl, rfl, by decide +kernel, rfl, by decide +kernel, by decide +kernel⟩
abbrev s_L_pairs : Stmt := top 9
theorem sc_L_pairs : FnScope ["_law_row_here"] ["_law_row_here"] (defScope s_L_pairs) := ⟨rfl, rfl, rfl, by decide +kernel, rfl, by decide +kernel, by decide +kernel⟩
abbrev s_L_times : Stmt := top 10
theorem sc_L_times : FnScope ["_law_some", "_law_known", "_law_line", "_law_number", "_law_inner", "_law_one", "_law_other"] ["_law_some"] (defScope s_L_times) := ⟨rfl, rfl, rfl, by decide +kernel, rfl, by decide +kernel, by decide +kernel⟩
abbrev s_L_same : Stmt := top 11
theorem sc_L_same : FnScope ["_law_found", "_law_due"] ["_law_found", "_law_due"] (defScope s_L_same) := ⟨rfl, rfl, rfl, by decide +kernel, rfl, by decide +kernel, by decide +kernel⟩
abbrev s_law : Stmt := top 12
theorem sc_law : FnScope ["_law_script", "_law_k", "_law_row_here", "_law_due", "_law_turn", "_law_found"] ["_law_script"] (defScope s_law) := ⟨rfl, rfl, rfl, by decide +kernel, rfl, by decide +kernel, by decide +kernel⟩
/-! ### the draws -/
def Dok (x : Int) (b : Bool) : Prop := 0 ≤ x ∧ (b = false → x < 2147483647)
def StAt (H : Hp) (a : Addr) (x : Int) (b : Bool) : Prop := H a = some (.lst [.int x, .bl b]) ∧ Dok x b
/-- all but what stands at a is as it was -/
def Keep (a : Addr) (H H' : Hp) : Prop := ∀ c o, c ≠ a → H c = some o → H' c = some o
theorem at_ints {ns : List Int} {k : Int} (h0 : 0 ≤ k) (h1 : k < (ns.length : Int)) : ∃ v : Int, atI (ns.map V.int) k = some (.int v) ∧ ns[k.toNat]? = some v := by
  have hk : k.toNat < ns.length := by omega
  have ek : ((k.toNat : Nat) : Int) = k := by omega
  refine ⟨ns[k.toNat], ?_, List.getElem?_eq_getElem hk⟩
  have q : atI (ns.map V.int) ((k.toNat : Nat) : Int) = some (.int ns[k.toNat]) := atI_nat (by rw [List.getElem?_map, List.getElem?_eq_getElem hk] <;> rfl)
  rw [ek] at q
  exact q
def spCell (K : PySem.W.Frag) : Sp := fun vs H Q _ => ∃ (a : Addr) (ns : List Int) (k : Int), vs = [.ref a, .int k] ∧ SqL K H a (ns.map V.int) ∧ 0 ≤ k ∧ ∀ c : Int, Q (.int c) H
def spState (K : PySem.W.Frag) : Sp := fun vs H Q _ => ∃ (a : Addr) (ns : List Int) (k : Int), vs = [.ref a, .int k] ∧ SqL K H a (ns.map V.int) ∧ 0 ≤ k ∧
  ∀ (r : Addr) (x : Int) (b : Bool), H r = none → Dok x b → Q (.ref r) (upd H r (.lst [.int x, .bl b]))
def spTake (K : PySem.W.Frag) : Sp := fun vs H Q _ => ∃ (a : Addr) (x : Int) (b : Bool) (m : Int), vs = [.ref a, .int m] ∧ StAt H a x b ∧ 0 < m ∧ m < 1073741824 ∧
  ∀ (v x' : Int), 0 ≤ v → v < m → Dok x' b → Q (.int v) (upd H a (.lst [.int x', .bl b]))
section
variable {P : Program} {w : World} {K : PySem.W.Frag} {mg : Str → Option Value} {base : Heap}
set_option maxRecDepth 100000 in
theorem ok_L_cell_at {f : Addr} {fd : FuncData} (F : Fun K "_law_cell_at" "_law_cell_at" s_L_cell_at f fd) (nb : Nb mg)   :
    FnOk P w K mg base CX0 1 f fd ["_law_script", "_law_k"] (spCell K) := by
  have nd := sc_L_cell_at.nd
  refine F.ok (k := 0) sc_L_cell_at (fun vs H Q E h => ?_) (fun cdv A outer s H vs Q E hr h => ?_)
  · obtain ⟨a, ns, k, rfl, _⟩ := h
    rfl
  obtain ⟨a, ns, k, rfl, hS, h0, q⟩ := h
  refine ⟨_, (pss_cons (ps_if (pt_cmpR op_lt (pv 1) (pe_callB call_len_seq rfl nb.len PySem.boot_len (pa_cons (pv 0) pa_nil)) (nomark _))
   (pss_one (ps_ret (pe_ix ix_list (pv 0) (pv 1) (fun _ _ => rfl))))
   pss_nil)
  (pss_one (ps_ret pe_int))), ?_⟩
  refine ⟨_, rfl, _, rfl, a, _, rfl, .inl hS, _, _, rfl, rfl, _, rfl, ?_⟩
  refine ite2 (fun c => ?_) (fun c => ?_)
  · have c' : k < (((ns.map V.int).length : Nat) : Int) := of_decide_eq_true c
    rw [List.length_map] at c'
    obtain ⟨v, q1, _⟩ := at_ints h0 c'
    exact ⟨_, rfl, _, rfl, a, _, _, _, rfl, rfl, hS, q1, q _⟩
  · exact q 0
set_option maxRecDepth 100000 in
theorem ok_L_state {f : Addr} {fd : FuncData} (F : Fun K "_law_state" "_law_state" s_L_state f fd) (nb : Nb mg) (h_L_cell_at : Has P w K mg base 1 "_law_cell_at" ["_law_script", "_law_k"] (spCell K))  :
    FnOk P w K mg base CX0 2 f fd ["_law_script", "_law_k"] (spState K) := by
  have nd := sc_L_state.nd
  refine F.ok (k := 1) sc_L_state (fun vs H Q E h => ?_) (fun cdv A outer s H vs Q E hr h => ?_)
  · obtain ⟨a, ns, k, rfl, _⟩ := h
    rfl
  obtain ⟨a, ns, k, rfl, hS, h0, q⟩ := h
  refine ⟨_, (pss_cons (ps_set (i := 2) nd rfl (Or.inl rfl) (pe_def h_L_cell_at hr (pa_cons (pv 0) (pa_cons (pv 1) pa_nil))))
  (pss_cons (ps_if (pt_cmpR op_ge (pv 2) (pe_op op_pow pe_int pe_int) (nomark _))
   (pss_one (ps_ret (pe_lst (pa_cons (pe_op op_sub (pv 2) (pe_op op_pow pe_int pe_int)) (pa_cons pe_bl pa_nil)))))
   pss_nil)
  (pss_one (ps_ret (pe_lst (pa_cons (pe_op op_mod (pv 2) pe_int) (pa_cons pe_bl pa_nil))))))), ?_⟩
  refine ⟨_, rfl, _, rfl, a, ns, k, rfl, hS, h0, fun c => ?_⟩
  refine ⟨_, rfl, _, _, rfl, rfl, ⟨by decide, by decide, by decide⟩, _, _, rfl, rfl, _, rfl, ?_⟩
  refine ite2 (fun z => ?_) (fun z => ?_)
  · have z' : (10 : Int) ^ 18 ≤ c := of_decide_eq_true z
    refine ⟨_, rfl, _, _, rfl, rfl, ⟨by decide, by decide, by decide⟩, _, _, rfl, rfl, (by show 2 ≤ sizeLine; decide), fun r hr' => q r _ true hr' ⟨?_, fun e => by cases e⟩⟩
    show (0 : Int) ≤ c - 10 ^ 18
    omega
  · refine ⟨_, rfl, _, _, rfl, rfl, (by show (0 : Int) < 2147483647; decide), (by show 2 ≤ sizeLine; decide), fun r hr' => q r _ false hr' ⟨?_, fun _ => ?_⟩⟩
    · exact Int.emod_nonneg _ (by decide)
    · exact Int.emod_lt_of_pos _ (by decide)
set_option maxRecDepth 100000 in
theorem ok_L_take {f : Addr} {fd : FuncData} (F : Fun K "_law_take" "_law_take" s_L_take f fd) (nb : Nb mg)   :
    FnOk P w K mg base CX0 1 f fd ["_law_state_here", "_law_many"] (spTake K) := by
  have nd := sc_L_take.nd
  refine F.ok (k := 0) sc_L_take (fun vs H Q E h => ?_) (fun cdv A outer s H vs Q E hr h => ?_)
  · obtain ⟨a, x, b, m, rfl, _⟩ := h
    rfl
  obtain ⟨a, x, b, m, rfl, ⟨hS, d0, d1⟩, m0, m1, q⟩ := h
  refine ⟨_, (pss_cons (ps_if (pt_truth (pe_ix ix_list (pv 0) pe_int (fun _ _ => rfl)) (fun _ => rfl))
   (pss_cons (ps_set (i := 2) nd rfl (Or.inl rfl) (pe_op op_mod (pe_ix ix_list (pv 0) pe_int (fun _ _ => rfl)) (pv 1)))
  (pss_cons (ps_asg (pe_op op_fdiv (pe_ix ix_list (pv 0) pe_int (fun _ _ => rfl)) (pv 1)) (pg_sub (pv 0) pe_int set_list))
  (pss_one (ps_ret (pv 2)))))
   pss_nil)
  (pss_cons (ps_asg (pe_op op_mod (pe_op op_add (pe_op op_mul (pe_ix ix_list (pv 0) pe_int (fun _ _ => rfl)) pe_int) pe_int) pe_int) (pg_sub (pv 0) pe_int set_list))
  (pss_cons (ps_set (i := 3) nd rfl (Or.inl rfl) (pe_op op_mod (pe_op op_add (pe_op op_add (pe_op op_mul (pe_ix ix_list (pv 0) pe_int (fun _ _ => rfl)) (pe_ix ix_list (pv 0) pe_int (fun _ _ => rfl))) (pe_op op_mul pe_int (pe_ix ix_list (pv 0) pe_int (fun _ _ => rfl)))) pe_int) pe_int))
  (pss_cons (ps_set (i := 3) nd rfl (Or.inl rfl) (pe_op op_mod (pe_op op_add (pe_op op_mul (pv 3) (pv 3)) (pe_op op_mul pe_int (pv 3))) pe_int))
  (pss_one (ps_ret (pe_op op_mod (pe_op op_fdiv (pv 3) pe_int) (pv 1)))))))), ?_⟩
  refine ⟨_, rfl, a, _, _, _, rfl, rfl, SqL.of hS, rfl, b, rfl, ?_⟩
  cases b with
  | true =>
    refine iteT ?_
    refine ⟨_, rfl, a, _, _, _, rfl, rfl, SqL.of hS, rfl, _, rfl, _, _, rfl, rfl, m0, ?_⟩
    refine ⟨_, rfl, a, _, _, _, rfl, rfl, SqL.of hS, rfl, _, rfl, _, _, rfl, rfl, ⟨m0, m1⟩, ?_⟩
    refine ⟨_, rfl, a, _, _, 0, rfl, rfl, hS, rfl, ?_⟩
    refine ⟨_, rfl, ?_⟩
    exact q _ _ (Int.emod_nonneg _ (by omega)) (Int.emod_lt_of_pos _ m0) ⟨Int.ediv_nonneg d0 (by omega), fun e => by cases e⟩
  | false =>
    refine iteF ?_
    have d2 := d1 rfl
    refine ⟨_, rfl, a, _, _, _, rfl, rfl, SqL.of hS, rfl, _, _, rfl, rfl, .inl ⟨by omega, by omega⟩, _, _, rfl, rfl, _, _, rfl, rfl, (by show (0 : Int) < 2147483647; decide), ?_⟩
    refine ⟨_, rfl, a, _, _, 0, rfl, rfl, hS, rfl, ?_⟩
    have e0 : (0 : Int) ≤ (x * 48271 + 29) % 2147483647 := Int.emod_nonneg _ (by decide)
    have e1 : (x * 48271 + 29) % 2147483647 < 2147483647 := Int.emod_lt_of_pos _ (by decide)
    refine ⟨_, rfl, a, _, _, _, rfl, rfl, SqL.of upd_same, rfl, _, rfl, a, _, _, _, rfl, rfl, SqL.of upd_same, rfl, _, _, rfl, rfl, .inl ⟨by omega, by omega⟩, _, rfl, a, _, _, _, rfl, rfl, SqL.of upd_same, rfl, _, _, rfl, rfl, .inl ⟨by decide, by decide⟩, _, _, rfl, rfl, _, _, rfl, rfl, _, _, rfl, rfl, (by show (0 : Int) < 2147483629; decide), ?_⟩
    refine ⟨_, rfl, _, rfl, _, _, rfl, rfl, .inl ⟨?_, ?_⟩, _, rfl, _, _, rfl, rfl, .inl ⟨by decide, by decide⟩, _, _, rfl, rfl, _, _, rfl, rfl, (by show (0 : Int) < 2147483587; decide), ?_⟩
    · exact Int.lt_of_lt_of_le (by decide) (Int.emod_nonneg _ (by decide))
    · exact Int.lt_trans (Int.emod_lt_of_pos _ (by decide)) (by decide)
    refine ⟨_, rfl, _, _, rfl, rfl, ⟨by decide, by decide⟩, _, rfl, _, _, rfl, rfl, m0, ?_⟩
    exact q _ _ (Int.emod_nonneg _ (by omega)) (Int.emod_lt_of_pos _ m0) ⟨e0, fun _ => e1⟩
end
end K42
end
section
namespace K42
open PySem PySem.Spec PyProof.Rows L2
set_option maxHeartbeats 4000000
set_option Elab.async false
set_option linter.unusedVariables false
/-! ### numbers and rows -/
theorem cut_from (xs : List V) (k : Nat) : cutV xs (some (k : Int)) none = xs.drop k := by
  unfold cutV
  rw [HT.sIx_nat, HT.sIx_none]
  by_cases h : k ≤ xs.length
  · rw [Nat.min_eq_left h, List.take_of_length_le (by rw [List.length_drop]; exact Nat.le_refl _)]
  · rw [Nat.min_eq_right (by omega), List.drop_eq_nil_of_le (Nat.le_refl _), List.drop_eq_nil_of_le (by omega), List.take_nil]
theorem getD_of {ns : List Int} {i : Nat} {v : Int} (h : (ns.map V.int)[i]? = some (.int v)) : ns.getD i 0 = v := by
  rw [List.getElem?_map] at h
  cases e : ns[i]? with
  | none => rw [e] at h; cases h
  | some z =>
    rw [e] at h
    have : z = v := by simpa using h
    rw [List.getD_eq_getElem?_getD, e, this]
    rfl
theorem int_at {ns : List Int} {i : Nat} {x : V} (h : (ns.map V.int)[i]? = some x) : ∃ v, x = .int v ∧ ns.getD i 0 = v := by
  have h' := h
  rw [List.getElem?_map] at h
  cases e : ns[i]? with
  | none => rw [e] at h; cases h
  | some z =>
    rw [e] at h
    have : x = .int z := by simpa using h.symm
    subst this
    exact ⟨z, rfl, getD_of h'⟩
section
variable {P : Program} {w : World} {K : PySem.W.Frag} {mg : Str → Option Value} {base : Heap}
end
end K42
end
section
namespace K42
open PySem PySem.Spec PyProof.Rows L2
set_option maxHeartbeats 4000000
set_option maxRecDepth 100000
set_option Elab.async false
set_option linter.unusedVariables false
theorem head_rd {K : PySem.W.Frag} {a : Addr} {ns : List Int} {H : Hp} {σ : L2.St} {Q : VK} (h0 : σ[0]? = some (some (.ref a))) (ha : H a = some (.tup (ns.map V.int))) (q : Q (.int (ns.headD 0)) H) :
    tIf (fun σ H Q => tVar 0 σ H fun x H' => ∃ k, TruV K x H' k ∧ Q k H') (tOp (rIxT K) (tVar 0) (tC (.int 0))) (tC (.int 0)) σ H Q := by
  refine ⟨_, h0, !(ns.map V.int).isEmpty, .inr (.inl ⟨_, SqT.of ha, rfl⟩), ?_⟩
  cases ns with
  | nil => exact iteF q
  | cons p r => exact iteT ⟨_, h0, a, _, _, _, rfl, rfl, SqT.of ha, (show atI ((p :: r).map V.int) ((0 : Nat) : Int) = some (.int p) from atI_nat rfl), q⟩
theorem in_nums (b : Int) (ns : List Int) : inV (.int b) (ns.map V.int) = decide (b ∈ ns) := by
  unfold inV
  rw [List.any_map, Bool.eq_iff_iff, List.any_eq_true, decide_eq_true_iff]
  constructor
  · rintro ⟨x, hx, e⟩
    have e' : x = b := of_decide_eq_true e
    exact e' ▸ hx
  · intro h
    exact ⟨b, h, decide_eq_true (rfl : b = b)⟩
theorem flat_nums (ns : List Int) : (ns.map V.int).all flatV = true := by
  rw [List.all_map, List.all_eq_true]
  intro x _
  rfl
theorem prs_same {H H' : Hp} {ys : List V} {bl : List (Int × Int)} (t : Prs H ys bl) (s : ∀ p xs, H p = some (.tup xs) → H' p = some (.tup xs)) : Prs H' ys bl := ⟨t.1, fun j b e => let ⟨p, a, c⟩ := t.2 j b e; ⟨p, a, s _ _ c⟩⟩
theorem prs_snoc {H : Hp} {ys : List V} {bl : List (Int × Int)} {p : Addr} {b : Int × Int} (t : Prs H ys bl) (h : H p = some (.tup [.int b.1, .int b.2])) : Prs H (ys ++ [.ref p]) (bl ++ [b]) := by
  refine ⟨by simp [t.1], fun j c e => ?_⟩
  by_cases z : j < bl.length
  · rw [List.getElem?_append_left z] at e
    obtain ⟨q, e1, e2⟩ := t.2 j c e
    exact ⟨q, by rw [List.getElem?_append_left (by rw [t.1]; exact z)]; exact e1, e2⟩
  · have jl : j < (bl ++ [b]).length := (List.getElem?_eq_some_iff.mp e).1
    have jj : j = bl.length := by rw [List.length_append, List.length_singleton] at jl; omega
    subst jj
    rw [List.getElem?_append_right (Nat.le_refl _), Nat.sub_self] at e
    cases e
    exact ⟨p, by rw [← t.1, List.getElem?_append_right (Nat.le_refl _), Nat.sub_self]; rfl, h⟩
/-- what stands while pairs are told: H0 ahead, f the pairs, h the balls that are held -/
structure Hd (H0 : Hp) (f h : Addr) (fl : List (Int × Int)) (hs : List Int) (H : Hp) : Prop where
  sm : Same H0 H
  f0 : H0 f = none
  h0 : H0 h = none
  fh : f ≠ h
  fy : ∃ ys, H f = some (.lst ys) ∧ Prs H ys fl
  hy : H h = some (.lst (hs.map V.int))
theorem Hd.pop {H0 H : Hp} {f h p : Addr} {fl : List (Int × Int)} {zs : List Int} {t box : Int} {ys : List V} (d : Hd H0 f h fl (zs ++ [t]) H) (hf : H f = some (.lst ys)) (pr : Prs H ys fl) (hp : (upd H h (.lst (zs.map V.int))) p = none) :
    (upd (upd H h (.lst (zs.map V.int))) p (.tup [.int t, .int box])) f = some (.lst ys) ∧ Hd H0 f h (fl ++ [(t, box)]) zs (upd (upd (upd H h (.lst (zs.map V.int))) p (.tup [.int t, .int box])) f (.lst (ys ++ [.ref p]))) := by
  have ph : p ≠ h := fun z => by rw [z, upd_same] at hp; cases hp
  have hp' : H p = none := by rw [upd_ne ph] at hp; exact hp
  have pf : p ≠ f := fun z => by rw [z, hf] at hp'; cases hp'
  have tupk : ∀ q xs, H q = some (.tup xs) → (upd (upd (upd H h (.lst (zs.map V.int))) p (.tup [.int t, .int box])) f (.lst (ys ++ [.ref p]))) q = some (.tup xs) := fun q xs e => by
    rw [upd_ne (fun z => by rw [z, hf] at e; cases e), upd_ne (fun z => by rw [z, hp'] at e; cases e), upd_ne (fun z => by rw [z, d.hy] at e; cases e)]
    exact e
  refine ⟨by rw [upd_ne pf.symm, upd_ne d.fh]; exact hf, fun c o e => ?_, d.f0, d.h0, d.fh, ⟨_, upd_same, prs_snoc (prs_same pr tupk) (by rw [upd_ne pf, upd_same])⟩, ?_⟩
  · rw [upd_ne (ne_of_none e d.f0), upd_ne (fun z => by rw [z] at e; rw [d.sm _ _ e] at hp'; cases hp'), upd_ne (ne_of_none e d.h0)]
    exact d.sm _ _ e
  · rw [upd_ne d.fh.symm, upd_ne ph.symm, upd_same]
theorem Hd.push {H0 H : Hp} {f h : Addr} {fl : List (Int × Int)} {hs : List Int} {x : Int} (d : Hd H0 f h fl hs H) : Hd H0 f h fl (hs ++ [x]) (upd H h (.lst (hs.map V.int ++ [.int x]))) := by
  obtain ⟨ys, hf, pr⟩ := d.fy
  refine ⟨fun c o e => by rw [upd_ne (ne_of_none e d.h0)]; exact d.sm _ _ e, d.f0, d.h0, d.fh, ⟨ys, by rw [upd_ne d.fh]; exact hf, prs_same pr fun q xs e => ?_⟩, by rw [upd_same, List.map_append]; rfl⟩
  rw [upd_ne (fun z => by rw [z, d.hy] at e; cases e)]
  exact e
/-- the arithmetic: so many places are gone through -/
structure Pg (row : List Int) (i : Nat) (fl : List (Int × Int)) (hs : List Int) (box : Int) : Prop where
  stk : BB.Stk row hs box
  fd : BB.FD row fl
  perm : (fl.map (·.1) ++ hs).Perm (row.take i)
  lo : ∀ p ∈ row.take i, p < box
theorem Pg.pop {row : List Int} {i : Nat} {fl : List (Int × Int)} {zs : List Int} {t box : Int} (g : Pg row i fl (zs ++ [t]) box) (hb : box ∉ row) : Pg row i (fl ++ [(t, box)]) zs (box + 1) := by
  obtain ⟨l, pr, s⟩ := g.stk.pop hb
  refine ⟨s, fun q hq => ?_, ?_, fun p hp => by have := g.lo p hp; omega⟩
  · rcases List.mem_append.mp hq with z | z
    · exact g.fd q z
    · rw [List.mem_singleton] at z
      subst z
      exact ⟨l, pr⟩
  · rw [List.map_append]
    refine List.Perm.trans ?_ g.perm
    rw [List.append_assoc]
    exact List.Perm.append_left _ List.perm_append_comm
theorem take_next {row : List Int} {i : Nat} {p : Int} (hi : i < row.length) (ep : row.getD i 0 = p) : row.take (i + 1) = row.take i ++ [p] := by
  rw [List.take_succ, List.getElem?_eq_getElem hi]
  rw [List.getD_eq_getElem?_getD, List.getElem?_eq_getElem hi] at ep
  show _ ++ [row[i]] = _
  rw [show row[i] = p from ep]
theorem Pg.push {row : List Int} {i : Nat} {fl : List (Int × Int)} {hs : List Int} {p box : Int} (g : Pg row i fl hs box) (hi : i < row.length) (ep : row.getD i 0 = p) (bp : box ≤ p) (c : hs = [] ∨ box = p) : Pg row (i + 1) fl (hs ++ [p]) (p + 1) := by
  have et := take_next hi ep
  have pm : p ∈ row := by
    rw [← ep, List.getD_eq_getElem?_getD, List.getElem?_eq_getElem hi]
    exact List.getElem_mem hi
  refine ⟨g.stk.push pm c, g.fd, ?_, fun q hq => ?_⟩
  · rw [et, ← List.append_assoc]
    exact g.perm.append_right _
  · rw [et] at hq
    rcases List.mem_append.mp hq with z | z
    · have := g.lo q z; omega
    · rw [List.mem_singleton] at z; omega
/-- a box that is passed is empty -/
theorem Pg.empty {row : List Int} {i : Nat} {fl : List (Int × Int)} {hs : List Int} {box : Int} (g : Pg row i fl hs box) (h : ∀ p ∈ row.drop i, box < p) : box ∉ row := fun z => by
  rw [← List.take_append_drop i row] at z
  rcases List.mem_append.mp z with y | y
  · have := g.lo _ y; omega
  · have := h _ y; omega
theorem seq_while {c : TT} {tb u : TS} {D : Ends} {σ : L2.St} {H : Hp} (h : tWhile c tb { D with nx := u D } σ H) : tSeq (tWhile c tb) u D σ H := h
/-- how many are held -/
def held (σ : L2.St) (H : Hp) : Nat := match σ with
  | [_, _, some (V.ref p), _, _] => (match H p with | some (.lst xs) => xs.length | _ => 0)
  | _ => 0
theorem held_at {H : Hp} {o1 o2 o3 o4 : Option V} {p : Addr} {xs : List V} (h : H p = some (.lst xs)) : held [o1, o2, some (.ref p), o3, o4] H = xs.length := by
  show (match H p with | some (.lst xs) => xs.length | _ => 0) = _
  rw [h]
def spPairs : Sp := fun vs H Q _ => ∃ (a : Addr) (row : List Int), vs = [.ref a] ∧ H a = some (.tup (row.map V.int)) ∧ row.Pairwise (· < ·) ∧ row.length ≤ 12 ∧
  ∀ (r : Addr) (zs : List V) (bl : List (Int × Int)) (H' : Hp), Same H H' → H r = none → H' r = some (.lst zs) → Prs H' zs bl → bl.map (·.1) = row → BB.FD row bl → Q (.ref r) H'
def spPart : Sp := fun vs H Q _ => ∃ (a : Addr) (row : List Int) (b : Int) (d : Nat), vs = [.ref a, .int b] ∧ H a = some (.tup (row.map V.int)) ∧ BB.Prt row b d ∧ ∀ H', Same H H' → Q (.int (b + (d : Int))) H'
noncomputable def dOf (row : List Int) (b : Int) : Nat := Classical.choose (BB.prt_ex row b)
theorem dOf_is (row : List Int) (b : Int) : BB.Prt row b (dOf row b) := (Classical.choose_spec (BB.prt_ex row b)).2
def spLp : Sp := fun vs H Q _ => ∃ (a : Addr) (row : List Int), vs = [.ref a] ∧ H a = some (.tup (row.map V.int)) ∧ row.length ≤ 12 ∧
  ∀ (r : Addr) (zs : List V) (bl : List (Int × Int)) (H' : Hp), Same H H' → H' r = some (.lst zs) → Prs H' zs bl → bl.map (·.1) = row → BB.FD row bl → Q (.ref r) H'
def st2 (σ : L2.St) : Int := match σ[2]? with
  | some (some (V.int x)) => x
  | _ => 0
section
variable {P : Program} {w : World} {K : PySem.W.Frag} {mg : Str → Option Value} {base : Heap}
set_option maxRecDepth 100000 in
theorem ok_pairs {f : Addr} {fd : FuncData} (F : Fun K "pairs" "pairs" s_pairs f fd) (nb : Nb3 mg)   :
    FnOk P w K mg base CX0 1 f fd ["row"] spPairs := by
  have nd := sc_pairs.nd
  refine F.ok (k := 0) sc_pairs (fun vs H Q E h => ?_) (fun cdv A outer s H vs Q E hr h => ?_)
  · obtain ⟨a, row, rfl, _⟩ := h
    rfl
  obtain ⟨a, row, rfl, ha, up, r12, q⟩ := h
  refine ⟨_, (pss_cons (ps_set (i := 1) nd rfl (Or.inl rfl) (pe_lst pa_nil))
(pss_cons (ps_set (i := 2) nd rfl (Or.inl rfl) (pe_lst pa_nil))
(pss_cons (ps_set (i := 3) nd rfl (Or.inl rfl) (pe_ifExp (pt_truth (pv 0) (fun _ => rfl)) (pe_ix ix_tup (pv 0) pe_int (fun _ _ => rfl)) pe_int))
(pss_cons (ps_for PassesOwn.never rfl (pi_tup (pv 0)) (pg_name (i := 4) nd rfl (Or.inl rfl))
(pss_cons (ps_while PassesOwn.never (PW.pt (pw_and (pt_truth (pv 2) (fun _ => rfl)) (pw_and1 (pt_cmpR op_lt (pv 3) (pv 4) (nomark _)))))
(pss_cons (ps_expr (pe_bm PySem.F.plainAttrs_list PySem.F.slot_list_append PySem.F.type_list_append mt_append (pv 1) (pa_cons (pe_tup (pa_cons (pe_bm0 PySem.F.plainAttrs_list PySem.F.slot_list_pop PySem.F.type_list_pop mt_pop (pv 2)) (pa_cons (pv 3) pa_nil))) pa_nil)))
(pss_one (ps_aug (i := 3) nd rfl (Or.inl rfl) pe_int ip_add))))
(pss_cons (ps_expr (pe_bm PySem.F.plainAttrs_list PySem.F.slot_list_append PySem.F.type_list_append mt_append (pv 2) (pa_cons (pv 4) pa_nil)))
(pss_one (ps_set (i := 3) nd rfl (Or.inl rfl) (pe_op op_add (pv 4) pe_int))))))
(pss_cons (ps_while PassesOwn.never (pt_truth (pv 2) (fun _ => rfl))
(pss_cons (ps_expr (pe_bm PySem.F.plainAttrs_list PySem.F.slot_list_append PySem.F.type_list_append mt_append (pv 1) (pa_cons (pe_tup (pa_cons (pe_bm0 PySem.F.plainAttrs_list PySem.F.slot_list_pop PySem.F.type_list_pop mt_pop (pv 2)) (pa_cons (pv 3) pa_nil))) pa_nil)))
(pss_one (ps_aug (i := 3) nd rfl (Or.inl rfl) pe_int ip_add))))
(pss_one (ps_ret (pe_callB call_sortP rfl nb.sorted boot_sorted (pa_cons (pv 1) pa_nil))))))))), ?_⟩
  refine ⟨(by show 0 ≤ sizeLine; decide), fun f hf => ?_⟩
  have s1 := same_new hf (.lst [])
  refine ⟨(by show 0 ≤ sizeLine; decide), fun h hh => ?_⟩
  have s2 := same_new hh (.lst [])
  have fh : f ≠ h := ne_of_none upd_same hh
  have h0 : H h = none := by rw [upd_ne fh.symm] at hh; exact hh
  have d0 : Hd H f h [] [] (upd (upd H f (.lst [])) h (.lst [])) := ⟨s1.trans s2, hf, h0, fh, ⟨[], s2 _ _ upd_same, rfl, fun j b e => by cases e⟩, upd_same⟩
  have ha2 := d0.sm _ _ ha
  generalize upd (upd H f (.lst [])) h (.lst []) = H2 at d0 ha2 ⊢
  refine head_rd (K := K) rfl ha2 ?_
  refine ⟨_, rfl, a, rfl, ⟨_, SqT.of ha2⟩, ?_⟩
  refine for_tup (xs := row.map V.int) (fun i σ H' => ∃ (fl : List (Int × Int)) (hs : List Int) (box : Int) (o4 : Option V), σ = [some (.ref a), some (.ref f), some (.ref h), some (.int box), o4] ∧ Hd H f h fl hs H' ∧ Pg row i fl hs box ∧ ∀ p ∈ row.drop i, box ≤ p) ?_ (fun i σ H' _ hp => ?_) (fun i x σ H' hxi hp => ?_) (fun σ H' hp => ?_)
  · refine ⟨[], [], _, _, rfl, d0, ⟨fun j h e => (by cases e), fun q hq => absurd hq List.not_mem_nil, List.Perm.refl _, fun p hp => absurd hp List.not_mem_nil⟩, fun p hp => ?_⟩
    cases row with
    | nil => simp at hp
    | cons b r =>
      rcases List.mem_cons.mp hp with z | z
      · rw [z]; exact Int.le_refl _
      · exact Int.le_of_lt ((List.pairwise_cons.mp up).1 p z)
  · obtain ⟨fl, hs, box, o4, rfl, dd, _⟩ := hp
    exact SqT.of (dd.sm _ _ ha)
  · obtain ⟨fl, hs, box, o4, rfl, dd, pg, ge⟩ := hp
    have hi : i < row.length := by
      have := (List.getElem?_eq_some_iff.mp hxi).1
      simpa using this
    obtain ⟨p, rfl, ep⟩ := int_at hxi
    have edr : row.drop i = p :: row.drop (i + 1) := by
      rw [List.drop_eq_getElem_cons hi]
      have : row[i] = p := by rw [← ep, List.getD_eq_getElem?_getD, List.getElem?_eq_getElem hi]; rfl
      rw [this]
    have bp0 : box ≤ p := ge p (by rw [edr]; exact List.mem_cons_self)
    have nx : ∀ q ∈ row.drop (i + 1), p + 1 ≤ q := fun q hq => by
      have up2 : (p :: row.drop (i + 1)).Pairwise (· < ·) := by rw [← edr]; exact up.sublist (List.drop_sublist ..)
      have := (List.pairwise_cons.mp up2).1 q hq
      omega
    have hbig : ∀ (fl : List (Int × Int)) (hs : List Int), (fl.map (·.1) ++ hs).Perm (row.take i) → fl.length ≤ 12 ∧ hs.length ≤ 12 := fun fl hs pm => by
      have := pm.length_eq
      rw [List.length_append, List.length_map, List.length_take] at this
      omega
    refine while_by (fun σ H' => ∃ (fl : List (Int × Int)) (hs : List Int) (box : Int), σ = [some (.ref a), some (.ref f), some (.ref h), some (.int box), some (.int p)] ∧ Hd H f h fl hs H' ∧ Pg row i fl hs box ∧ box ≤ p) held ⟨fl, hs, box, rfl, dd, pg, bp0⟩ (fun σ H1 hp => ?_) (fun σ H Q Q' hq h => ?_)
    · obtain ⟨fl, hs, box, rfl, dd, pg, bp⟩ := hp
      obtain ⟨ys, hfy, pr⟩ := dd.fy
      obtain ⟨lf, lh⟩ := hbig fl hs pg.perm
      have mm := held_at (o1 := some (V.ref a)) (o2 := some (V.ref f)) (o3 := some (V.int box)) (o4 := some (V.int p)) dd.hy
      rcases List.eq_nil_or_concat hs with e0 | ⟨zs, t, e0⟩
      · subst e0
        refine ⟨_, rfl, false, .inl ⟨_, SqL.of dd.hy, rfl⟩, iteF (iteF ?_)⟩
        refine ⟨_, rfl, .inl ⟨rfl, _, SqL.of dd.hy⟩, _, rfl, h, _, _, rfl, rfl, dd.hy, by rw [List.length_map, sizeLine_eq]; omega, ?_⟩
        refine ⟨_, rfl, _, _, rfl, rfl, ?_⟩
        exact ⟨fl, _, p + 1, _, rfl, dd.push, pg.push hi ep bp (.inl rfl), nx⟩
      rw [List.concat_eq_append] at e0
      subst e0
      refine ⟨_, rfl, true, .inl ⟨_, SqL.of dd.hy, by simp⟩, iteT ?_⟩
      refine ⟨_, rfl, _, rfl, _, _, rfl, rfl, _, rfl, ?_⟩
      refine ite2 (fun c => ?_) (fun c => ?_)
      · have c' : box < p := of_decide_eq_true c
        have hb := pg.empty fun z hz => by
          rw [edr] at hz
          rcases List.mem_cons.mp hz with y | y
          · rw [y]; exact c'
          · have := nx z y; omega
        have edl : ((zs ++ [t]).map V.int).dropLast = zs.map V.int := by rw [List.map_append, List.map_singleton, List.dropLast_concat]
        have ela : ((zs ++ [t]).map V.int)[((zs ++ [t]).map V.int).length - 1]? = some (.int t) := by rw [List.map_append, List.map_singleton, List.length_append, List.length_singleton, Nat.add_sub_cancel, List.getElem?_append_right (Nat.le_refl _), Nat.sub_self]; rfl
        refine ⟨_, rfl, .inl ⟨rfl, _, SqL.of hfy⟩, _, rfl, .inl ⟨rfl, _, SqL.of dd.hy⟩, h, _, _, rfl, rfl, dd.hy, ela, _, rfl, (by show 2 ≤ sizeLine; decide), fun q1 hq1 => ?_⟩
        rw [edl] at hq1 ⊢
        obtain ⟨hf1, dd'⟩ := dd.pop (box := box) hfy pr hq1
        refine ⟨f, _, _, rfl, rfl, hf1, by rw [pr.1, sizeLine_eq]; omega, ?_⟩
        refine ⟨_, rfl, _, _, rfl, rfl, ?_⟩
        exact ⟨⟨_, zs, box + 1, rfl, dd', pg.pop hb, by omega⟩, by show held [_, _, some (V.ref h), _, _] _ < _; rw [mm, held_at dd'.hy, List.length_map, List.length_map, List.length_append, List.length_singleton]; omega⟩
      · have c' : ¬ box < p := of_decide_eq_false (Bool.eq_false_iff.mpr c)
        refine ⟨_, rfl, .inl ⟨rfl, _, SqL.of dd.hy⟩, _, rfl, h, _, _, rfl, rfl, dd.hy, by rw [List.length_map, sizeLine_eq]; omega, ?_⟩
        refine ⟨_, rfl, _, _, rfl, rfl, ?_⟩
        exact ⟨fl, _, p + 1, _, rfl, dd.push, pg.push hi ep bp (.inr (by omega)), nx⟩
    · obtain ⟨v, e, k, tv, q1⟩ := h
      cases k with
      | true =>
        rw [if_pos rfl] at q1
        obtain ⟨v2, e2, v3, e3, i1, i2, f1, f2, k2, f3, q2⟩ := q1
        exact ⟨v, e, true, tv, iteT ⟨v2, e2, v3, e3, i1, i2, f1, f2, k2, f3, hq _ _ q2⟩⟩
      | false => exact ⟨v, e, false, tv, iteF (hq _ _ (by rw [if_neg Bool.false_ne_true] at q1; exact q1))⟩
  · obtain ⟨fl, hs, box, o4, rfl, dd, pg, ge⟩ := hp
    rw [List.length_map] at pg ge
    have hbig : ∀ (fl : List (Int × Int)) (hs : List Int), (fl.map (·.1) ++ hs).Perm (row.take row.length) → fl.length ≤ 12 ∧ hs.length ≤ 12 := fun fl hs pm => by
      have := pm.length_eq
      rw [List.length_append, List.length_map, List.length_take] at this
      omega
    dsimp only
    refine seq_while ?_
    refine while_by (fun σ H' => ∃ (fl : List (Int × Int)) (hs : List Int) (box : Int), σ = [some (.ref a), some (.ref f), some (.ref h), some (.int box), o4] ∧ Hd H f h fl hs H' ∧ Pg row row.length fl hs box) held ⟨fl, hs, box, rfl, dd, pg⟩ (fun σ H1 hp => ?_) (fun σ H Q Q' hq h => ?_)
    · obtain ⟨fl, hs, box, rfl, dd, pg⟩ := hp
      obtain ⟨ys, hfy, pr⟩ := dd.fy
      obtain ⟨lf, lh⟩ := hbig fl hs pg.perm
      have mm := held_at (o1 := some (V.ref a)) (o2 := some (V.ref f)) (o3 := some (V.int box)) (o4 := o4) dd.hy
      rcases List.eq_nil_or_concat hs with e0 | ⟨zs, t, e0⟩
      · subst e0
        refine ⟨_, rfl, false, .inl ⟨_, SqL.of dd.hy, rfl⟩, iteF ?_⟩
        have pm := pg.perm
        rw [List.append_nil, List.take_length] at pm
        refine ⟨_, rfl, f, ys, fl, rfl, hfy, pr, pm.nodup_iff.mpr (up.imp fun {x y} z => by omega), by omega, fun bl' zs l pm' pw' pr' hl => ?_⟩
        have s9 := same_new hl (.lst zs)
        refine q l zs bl' _ (dd.sm.trans s9) ?_ upd_same (prs_same pr' fun x xs e => s9 _ _ e) ?_ fun z hz => pg.fd z (pm'.mem_iff.mp hz)
        · cases e9 : H l with
          | none => rfl
          | some o => rw [dd.sm _ _ e9] at hl; cases hl
        · refine BB.rise_ext (List.pairwise_map.mpr pw') up fun x => ?_
          rw [(pm'.map (·.1)).mem_iff, pm.mem_iff]
      rw [List.concat_eq_append] at e0
      subst e0
      refine ⟨_, rfl, true, .inl ⟨_, SqL.of dd.hy, by simp⟩, iteT ?_⟩
      have hb := pg.empty fun z hz => by
        rw [List.drop_length] at hz
        cases hz
      have edl : ((zs ++ [t]).map V.int).dropLast = zs.map V.int := by rw [List.map_append, List.map_singleton, List.dropLast_concat]
      have ela : ((zs ++ [t]).map V.int)[((zs ++ [t]).map V.int).length - 1]? = some (.int t) := by rw [List.map_append, List.map_singleton, List.length_append, List.length_singleton, Nat.add_sub_cancel, List.getElem?_append_right (Nat.le_refl _), Nat.sub_self]; rfl
      refine ⟨_, rfl, .inl ⟨rfl, _, SqL.of hfy⟩, _, rfl, .inl ⟨rfl, _, SqL.of dd.hy⟩, h, _, _, rfl, rfl, dd.hy, ela, _, rfl, (by show 2 ≤ sizeLine; decide), fun q1 hq1 => ?_⟩
      rw [edl] at hq1 ⊢
      obtain ⟨hf1, dd'⟩ := dd.pop (box := box) hfy pr hq1
      refine ⟨f, _, _, rfl, rfl, hf1, by rw [pr.1, sizeLine_eq]; omega, ?_⟩
      refine ⟨_, rfl, _, _, rfl, rfl, ?_⟩
      exact ⟨⟨_, zs, box + 1, rfl, dd', pg.pop hb⟩, by show held [_, _, some (V.ref h), _, _] _ < _; rw [mm, held_at dd'.hy, List.length_map, List.length_map, List.length_append, List.length_singleton]; omega⟩
    · obtain ⟨v, e, k, tv, q1⟩ := h
      exact ⟨v, e, k, tv, hq _ _ q1⟩
set_option maxRecDepth 100000 in
theorem ok_L_partner {f : Addr} {fd : FuncData} (F : Fun K "_law_partner" "_law_partner" s_L_partner f fd) (nb : Nb3 mg)   :
    FnOk P w K mg base CX0 1 f fd ["_law_row_here", "_law_ball"] spPart := by
  have nd := sc_L_partner.nd
  refine F.ok (k := 0) sc_L_partner (fun vs H Q E h => ?_) (fun cdv A outer s H vs Q E hr h => ?_)
  · obtain ⟨a, row, b, d, rfl, _⟩ := h
    rfl
  obtain ⟨a, row, b, d, rfl, ha, pt, q⟩ := h
  refine ⟨_, (pss_cons (ps_par (i := 2) (j := 3) rfl nd rfl rfl (by decide) rfl rfl (pa_cons (pv 1) (pa_cons pe_int pa_nil)) rfl)
(pss_cons (ps_while PassesOwn.never (pt_cmpR op_gt (pv 3) pe_int (nomark _))
(pss_cons (ps_set (i := 2) nd rfl (Or.inl rfl) (pe_op op_add (pv 2) pe_int))
(pss_one (ps_set (i := 3) nd rfl (Or.inl rfl) (pe_op op_add (pv 3) (pe_ix ix_list (pe_lst (pa_cons (pe_un un_neg pe_int) (pa_cons pe_int pa_nil))) (pe_callTy call_int1 rfl nb.int boot_int (pa_cons (pe_cmpR op_in_seq (pv 2) (pv 0) rfl) pa_nil)) (fun _ _ => rfl)))))))
(pss_one (ps_ret (pv 2))))), ?_⟩
  refine ⟨_, rfl, _, _, rfl, ?_⟩
  refine while_by (fun σ H' => Same H H' ∧ ∃ e : Nat, σ = [some (.ref a), some (.int b), some (.int (b + (e : Int))), some (.int (BB.wlk row b e))] ∧ e ≤ d) (fun σ _ => (b + (d : Int) - st2 σ).toNat) ⟨Same.refl H, 0, by rw [Int.natCast_zero, Int.add_zero]; rfl, Nat.zero_le _⟩ (fun σ H1 hp => ?_) (fun σ H Q Q' hq h => ?_)
  · obtain ⟨sm, e, rfl, ed⟩ := hp
    refine ⟨_, rfl, _, _, rfl, rfl, _, rfl, ?_⟩
    by_cases c : e < d
    · have c1 : 0 < BB.wlk row b e := pt.2 e c
      rw [decide_eq_true c1]
      refine iteT ?_
      refine ⟨_, rfl, _, _, rfl, rfl, ?_⟩
      refine ⟨_, rfl, _, rfl, (by show 2 ≤ sizeLine; decide), fun pl hpl => ?_⟩
      have s3 := same_new hpl (.lst [.int (-1), .int 1])
      refine ⟨_, rfl, _, rfl, a, _, rfl, .inr (SqT.of (s3 _ _ (sm _ _ ha))), rfl, flat_nums _, .inr ⟨_, rfl, ?_⟩⟩
      have eb := in_nums (b + (e : Int) + 1) row
      generalize inV (.int (b + (e : Int) + 1)) (row.map V.int) = bb at eb ⊢
      refine ⟨pl, [.int (-1), .int 1], _, .int (if bb = true then 1 else -1), rfl, rfl, SqL.of upd_same, (by cases bb <;> rfl), _, _, rfl, rfl, ?_⟩
      refine ⟨⟨sm.trans s3, e + 1, ?_, c⟩, ?_⟩
      · have e1 : BB.wlk row b e + (if bb = true then 1 else -1) = BB.wlk row b (e + 1) := by
          rw [BB.wlk, eb]
          congr 1
          by_cases z : b + (e : Int) + 1 ∈ row
          · rw [if_pos z, if_pos (decide_eq_true z)]
          · rw [if_neg z, if_neg (by rw [decide_eq_false z]; exact Bool.false_ne_true)]
        show [some (V.ref a), some (V.int b), some (V.int (b + (e : Int) + 1)), some (V.int (BB.wlk row b e + if bb = true then 1 else -1))] = _
        rw [e1, Int.natCast_add, Int.natCast_one, Int.add_assoc]
      · show (b + (d : Int) - (b + (e : Int) + 1)).toNat < (b + (d : Int) - (b + (e : Int))).toNat
        omega
    · have ee : e = d := by omega
      subst ee
      rw [pt.1, decide_eq_false (by omega)]
      exact iteF ⟨_, rfl, q H1 sm⟩
  · obtain ⟨v, e, i1, i2, f1, f2, k2, f3, q2⟩ := h
    exact ⟨v, e, i1, i2, f1, f2, k2, f3, hq _ _ q2⟩
set_option maxRecDepth 100000 in
theorem ok_L_pairs {f : Addr} {fd : FuncData} (F : Fun K "_law_pairs" "_law_pairs" s_L_pairs f fd) (nb : Nb3 mg) (h_L_partner : Has P w K mg base 1 "_law_partner" ["_law_row_here", "_law_ball"] spPart)  :
    FnOk P w K mg base CX0 2 f fd ["_law_row_here"] spLp := by
  have nd := sc_L_pairs.nd
  refine F.ok (k := 1) sc_L_pairs (fun vs H Q E h => ?_) (fun cdv A outer s H vs Q E hr h => ?_)
  · obtain ⟨a, row, rfl, _⟩ := h
    rfl
  obtain ⟨a, row, rfl, ha, r12, q⟩ := h
  refine ⟨_, (pss_one (ps_ret (pe_comp1 (sc := defScope s_L_pairs) (N0 := ["_law_row_here"]) (N := ["_law_row_here"]) (js := [0]) rfl rfl rfl (by exact ⟨rfl, by decide +kernel, by decide +kernel, by decide +kernel, rfl, rfl, by decide, by decide +kernel, by decide +kernel⟩) rfl
(pi_tup (pv 0))
(fun _ _ _ _ _ => by exact pts_nil)
(fun _ _ _ _ _ => by exact (pe_tup (pa_cons (pv 0) (pa_cons (pe_def h_L_partner hr (pa_cons (pv 1) (pa_cons (pv 0) pa_nil))) pa_nil))))))), ?_⟩
  refine ⟨_, rfl, a, rfl, ⟨_, SqT.of ha⟩, fun D hD => ?_⟩
  refine comp_tups row.length (by rw [sizeLine_eq]; omega) (fun i => [.int (row.getD i 0), .int (row.getD i 0 + (dOf row (row.getD i 0) : Int))]) (fun σ => ∃ o1, σ = [o1, some (.ref a)]) _ hD (by exact ⟨_, rfl⟩) (by have := items_tup (K := K) ha; rw [List.length_map] at this; exact this) (fun i z σ' H2 hi s3 im hσ R hR => ?_) (fun H1 ys s1 hD1 hl1 hys => ?_)
  · obtain ⟨o1, rfl⟩ := hσ
    obtain ⟨v, rfl, ev⟩ := int_at im
    refine ⟨_, rfl, _, rfl, _, rfl, a, row, v, dOf row v, rfl, s3 _ _ ha, dOf_is row v, fun H4 s4 => ?_⟩
    exact ⟨(by show 2 ≤ sizeLine; decide), fun p hp => hR _ _ _ ⟨_, rfl⟩ (s4.trans (same_new hp _)) (by rw [upd_same, ev])⟩
  · refine q D ys (row.map fun b => (b, b + (dOf row b : Int))) H1 s1 hD1 ⟨by rw [List.length_map]; exact hl1, fun j c e => ?_⟩ ?_ fun z hz => ?_
    · rw [List.getElem?_map] at e
      cases ej : row[j]? with
      | none => rw [ej] at e; cases e
      | some b =>
        rw [ej] at e
        cases e
        have jl : j < row.length := (List.getElem?_eq_some_iff.mp ej).1
        have gj := List.getElem?_eq_getElem (show j < ys.length by omega)
        obtain ⟨p, e1, e2⟩ := hys j _ gj
        refine ⟨p, by rw [gj, e1], ?_⟩
        rw [List.getD_eq_getElem?_getD, ej] at e2
        exact e2
    · rw [List.map_map]
      exact (List.map_congr_left fun _ _ => rfl).trans (List.map_id row)
    · obtain ⟨b, hb, rfl⟩ := List.mem_map.mp hz
      have pt := dOf_is row b
      have d0 : dOf row b ≠ 0 := fun z => by
        have := pt.1
        rw [z] at this
        cases this
      refine ⟨by show b < b + (dOf row b : Int); omega, ?_⟩
      show BB.Prt row b (b + (dOf row b : Int) - b).toNat
      rw [show (b + (dOf row b : Int) - b).toNat = dOf row b by omega]
      exact pt
end
end K42
end
section
namespace K42
open PySem PySem.Spec PyProof.Rows L2
set_option maxHeartbeats 4000000
set_option maxRecDepth 100000
set_option Elab.async false
set_option linter.unusedVariables false
theorem seq_whileT {c : TT} {tb u : TS} {D : Ends} {σ : L2.St} {H : Hp} (h : tWhile c tb { D with nx := u D } σ H) : tSeq (tWhile c tb) u D σ H := h
theorem prs_app {H : Hp} {xs ys : List V} {bl cl : List (Int × Int)} (t : Prs H xs bl) (u : Prs H ys cl) : Prs H (xs ++ ys) (bl ++ cl) := by
  refine ⟨by rw [List.length_append, List.length_append, t.1, u.1], fun j b e => ?_⟩
  by_cases z : j < bl.length
  · rw [List.getElem?_append_left z] at e
    obtain ⟨p, e1, e2⟩ := t.2 j b e
    exact ⟨p, by rw [List.getElem?_append_left (by rw [t.1]; exact z)]; exact e1, e2⟩
  · rw [List.getElem?_append_right (by omega)] at e
    obtain ⟨p, e1, e2⟩ := u.2 _ b e
    exact ⟨p, by rw [List.getElem?_append_right (by rw [t.1]; omega), t.1]; exact e1, e2⟩
theorem prs_get {H : Hp} {xs : List V} {bl : List (Int × Int)} (t : Prs H xs bl) {i : Nat} {x : V} (h : xs[i]? = some x) : ∃ (p : Addr) (b : Int × Int), x = .ref p ∧ bl[i]? = some b ∧ H p = some (.tup [.int b.1, .int b.2]) := by
  have il : i < bl.length := by rw [← t.1]; exact (List.getElem?_eq_some_iff.mp h).1
  obtain ⟨p, e1, e2⟩ := t.2 i _ (List.getElem?_eq_getElem il)
  rw [h] at e1
  exact ⟨p, _, Option.some.inj e1, List.getElem?_eq_getElem il, e2⟩
abbrev ky (z : Int × Int) : List Key := [Sum.inl z.1, Sum.inl z.2]
theorem ky_inj {z y : Int × Int} (h : ky z = ky y) : z = y := by
  injection h with h1 h2
  injection h2 with h2 _
  exact Prod.ext (Sum.inl.inj h1) (Sum.inl.inj h2)
def dps (bl : List (Int × Int)) : List Int := bl.map fun q => (BB.dep bl q : Int)
def spTm : Sp := fun vs H Q _ => ∃ (a : Addr) (xs : List V) (bl : List (Int × Int)), vs = [.ref a] ∧ H a = some (.lst xs) ∧ Prs H xs bl ∧ BB.Nst bl ∧ bl.length ≤ 12 ∧
  ∀ (r : Addr) (H' : Hp), Same H H' → H' r = some (.lst ((dps bl).map V.int)) → Q (.ref r) H'
/-- what is known ahead of the nth time -/
def Kno (bl : List (Int × Int)) (kvs : List (List Key × V)) (n : Nat) : Prop := ∀ z : Int × Int, valV kvs (ky z) = if z ∈ bl ∧ BB.dep bl z < n then some (.int (BB.dep bl z : Int)) else none
structure Tm (H0 H : Hp) (d l : Addr) (bl ml : List (Int × Int)) (n : Nat) : Prop where
  sm : Same H0 H
  d0 : H0 d = none
  n1 : 1 ≤ n
  nl : n + (BB.left bl ml n).length ≤ 25
  ln : ∃ zs, H l = some (.lst zs) ∧ Prs H zs (BB.left bl ml n)
  kn : ∃ kvs, H d = some (.dT kvs) ∧ Kno bl kvs n ∧ kvs.length ≤ 24 * n
theorem Tm.same {H0 H H' : Hp} {d l : Addr} {bl ml : List (Int × Int)} {n : Nat} (t : Tm H0 H d l bl ml n) (s : Same H H') : Tm H0 H' d l bl ml n := by
  obtain ⟨zs, h1, h2⟩ := t.ln
  obtain ⟨kvs, h3, h4⟩ := t.kn
  exact ⟨t.sm.trans s, t.d0, t.n1, t.nl, ⟨zs, s _ _ h1, prs_same h2 fun p xs e => s _ _ e⟩, ⟨kvs, s _ _ h3, h4⟩⟩
/-- how long the list in the third slot is -/
def lenT (σ : L2.St) (H : Hp) : Nat := match σ with
  | [_, _, some (V.ref p), _, _, _, _] => (match H p with | some (.lst xs) => xs.length | _ => 0)
  | _ => 0
theorem lenT_at {H : Hp} {o1 o2 o3 o4 o5 o6 : Option V} {p : Addr} {zs : List V} (h : H p = some (.lst zs)) : lenT [o1, o2, some (.ref p), o3, o4, o5, o6] H = zs.length := by
  show (match H p with | some (.lst xs) => xs.length | _ => 0) = _
  rw [h]
/-- those that go out, by where they stand -/
def adjB (l : List (Int × Int)) (k : Nat) : Bool := decide ((l.getD k (0, 0)).2 = (l.getD (k + 1) (0, 0)).1) && decide ((l.getD k (0, 0)).1 < (l.getD k (0, 0)).2)
def Inn (H : Hp) (zs ys : List V) (ks : List Nat) : Prop := ys.length = ks.length ∧ ∀ (j k : Nat), ks[j]? = some k → ∃ (p : Addr) (u v : V), ys[j]? = some (.ref p) ∧ H p = some (.tup [u, v]) ∧ zs[k]? = some u ∧ zs[k + 1]? = some v
theorem getD_at {l : List (Int × Int)} {k : Nat} {b : Int × Int} (h : l[k]? = some b) : l.getD k (0, 0) = b := by rw [List.getD_eq_getElem?_getD, h]; rfl
section
variable {P : Program} {w : World} {K : PySem.W.Frag} {mg : Str → Option Value} {base : Heap}
set_option maxRecDepth 100000 in
theorem ok_L_times {f : Addr} {fd : FuncData} (F : Fun K "_law_times" "_law_times" s_L_times f fd) (nb : Nb3 mg)   :
    FnOk P w K mg base CX0 1 f fd ["_law_some"] spTm := by
  have nd := sc_L_times.nd
  refine F.ok (k := 0) sc_L_times (fun vs H Q E h => ?_) (fun cdv A outer s H vs Q E hr h => ?_)
  · obtain ⟨a, xs, bl, rfl, _⟩ := h
    rfl
  obtain ⟨a, xs, bl, rfl, ha, pr, ns, l12, q⟩ := h
  refine ⟨_, (pss_cons (ps_set (i := 1) nd rfl (Or.inr rfl) pe_dnewT)
(pss_cons (ps_set (i := 2) nd rfl (Or.inl rfl) (pe_callB call_sortP rfl nb.sorted boot_sorted (pa_cons (pe_op op_cat (pv 0) (pe_comp2 (sc := defScope s_L_times) (N0 := ["_law_some", "_law_known", "_law_line", "_law_number", "_law_inner", "_law_one", "_law_other"]) (N := []) (js := []) rfl rfl rfl (by exact ⟨rfl, by decide +kernel, by decide +kernel, by decide +kernel, rfl, rfl, by decide, by decide +kernel, by decide +kernel⟩) rfl rfl
(pi_list (pv 0))
(fun _ _ _ _ _ => by exact pts_nil)
(fun _ _ _ _ _ => by exact (pe_tup (pa_cons (pv 1) (pa_cons (pv 0) pa_nil)))))) pa_nil)))
(pss_cons (ps_set (i := 3) nd rfl (Or.inl rfl) pe_int)
(pss_cons (ps_while PassesOwn.never (pt_cmpR (op_neNil hr.units0) (pv 2) (pe_lst pa_nil) (nomark _))
(pss_cons (ps_comp2 (ii := 4) nd rfl (Or.inl rfl) (sc := defScope s_L_times) (N0 := ["_law_some", "_law_known", "_law_line", "_law_number", "_law_inner", "_law_one", "_law_other"]) (N := []) (js := []) rfl rfl rfl (by exact ⟨rfl, by decide +kernel, by decide +kernel, by decide +kernel, rfl, rfl, by decide, by decide +kernel, by decide +kernel⟩) rfl rfl
(pi_zip false rfl nb.zip (pa_cons (pv 2) (pa_cons (pe_slice sl_list (pv 2) (po_some pe_int) po_none) pa_nil)))
(fun _ _ _ _ _ => by exact (pts_one (PW.pt (pw_and (pt_cmpR op_eq (pe_ix (show IxR _ (rIxT K) from ix_tup) (pv 0) pe_int (fun _ _ => rfl)) (pe_ix (show IxR _ (rIxT K) from ix_tup) (pv 1) pe_int (fun _ _ => rfl)) (nomark _)) (pw_and1 (pt_cmpR op_lt (pe_ix (show IxR _ (rIxT K) from ix_tup) (pv 0) pe_int (fun _ _ => rfl)) (pe_ix (show IxR _ (rIxT K) from ix_tup) (pv 0) pe_int (fun _ _ => rfl)) (nomark _)))))))
(fun _ _ _ _ _ => by exact (pe_tup (pa_cons (pv 0) (pa_cons (pv 1) pa_nil)))))
(pss_cons (ps_for PassesOwn.never rfl (pi_list (pv 4)) (pg_tup rfl (pgs_cons (pg_name (i := 5) nd rfl (Or.inl rfl)) (pgs_cons (pg_name (i := 6) nd rfl (Or.inl rfl)) pgs_nil)))
(pss_one (ps_dput (hu1 hr) (pv 1) (pv 5) (pv 3) rfl)))
(pss_cons (ps_comp1 (ii := 2) nd rfl (Or.inl rfl) (sc := defScope s_L_times) (N0 := ["_law_some", "_law_known", "_law_line", "_law_number", "_law_inner", "_law_one", "_law_other"]) (N := ["_law_known"]) (js := [1]) rfl rfl rfl (by exact ⟨rfl, by decide +kernel, by decide +kernel, by decide +kernel, rfl, rfl, by decide, by decide +kernel, by decide +kernel⟩) rfl
(pi_list (pv 2))
(fun _ _ _ _ _ => by exact (pts_one (PW.pt (pw_and (pt_cmp (pc_dnotin (hu1 hr) (pv 0) (pv 1))) (pw_and1 (pt_cmp (pc_dnotin (hu1 hr) (pe_rev (pv 0)) (pv 1))))))))
(fun _ _ _ _ _ => by exact (pv 0)))
(pss_one (ps_set (i := 3) nd rfl (Or.inl rfl) (pe_op op_add (pv 3) pe_int)))))))
(pss_one (ps_ret (pe_comp1 (sc := defScope s_L_times) (N0 := ["_law_some", "_law_known", "_law_line", "_law_number", "_law_inner", "_law_one", "_law_other"]) (N := ["_law_known"]) (js := [1]) rfl rfl rfl (by exact ⟨rfl, by decide +kernel, by decide +kernel, by decide +kernel, rfl, rfl, by decide, by decide +kernel, by decide +kernel⟩) rfl
(pi_list (pv 0))
(fun _ _ _ _ _ => by exact pts_nil)
(fun _ _ _ _ _ => by exact (pe_dget (hu1 hr) (pv 1) (pv 0) (fun _ _ => rfl)))))))))), ?_⟩
  refine fun d hd => ?_
  have s1 := same_new hd (.dT [])
  have hd1 : (upd H d (.dT [])) d = some (.dT []) := upd_same
  generalize upd H d (.dT []) = H1 at s1 hd1 ⊢
  have ha1 := s1 _ _ ha
  have pr1 : Prs H1 xs bl := prs_same pr fun p zs e => s1 _ _ e
  have lx : xs.length = bl.length := pr.1
  refine ⟨_, rfl, _, rfl, a, rfl, ⟨_, SqL.of ha1⟩, fun D hD => ?_⟩
  refine comp_tups xs.length (by rw [sizeLine_eq]; omega) (fun i => [.int (bl.getD i (0, 0)).2, .int (bl.getD i (0, 0)).1]) (fun σ => ∃ o1 o2, σ = [o1, o2]) _ hD (by exact ⟨_, _, rfl⟩) (items_lst ha1) (fun i z σ' H2 hi s2 im hσ R hR => ?_) (fun H3 ys s3 hD3 hl3 hys => ?_)
  · obtain ⟨o1, o2, rfl⟩ := hσ
    obtain ⟨p, b, rfl, eb, hp⟩ := prs_get pr1 im
    rw [getD_at eb] at hR
    exact ⟨p, _, rfl, SqT.of (s2 _ _ hp), rfl, _, _, rfl, _, _, rfl, rfl, _, rfl, _, rfl, (by show 2 ≤ sizeLine; decide), fun t ht => hR _ _ _ ⟨_, _, rfl⟩ (same_new ht _) upd_same⟩
  have ha3 := s3 _ _ ha1
  refine ⟨a, D, _, _, rfl, rfl, ha3, hD3, by rw [sizeLine_eq]; omega, fun L hL => ?_⟩
  have s4 := same_new hL (.lst (xs ++ ys))
  have prY : Prs H3 ys (bl.map BB.swp) := by
    refine ⟨by rw [hl3, List.length_map, lx], fun j b e => ?_⟩
    rw [List.getElem?_map] at e
    obtain ⟨c, ec, e⟩ := Option.map_eq_some_iff.mp e
    have jl : j < ys.length := by rw [hl3, lx]; exact (List.getElem?_eq_some_iff.mp ec).1
    obtain ⟨p, e1, e2⟩ := hys j _ (List.getElem?_eq_getElem jl)
    refine ⟨p, by rw [List.getElem?_eq_getElem jl, e1], ?_⟩
    rw [e2, getD_at ec, ← e]
    rfl
  have prA := prs_app (prs_same pr1 fun p zs e => s3 _ _ e) prY
  have ndp : ((bl ++ bl.map BB.swp).map (·.1)).Nodup := by
    rw [List.map_append, List.map_map]
    refine List.nodup_append.mpr ⟨List.pairwise_map.mpr (ns.up.imp fun l => by omega), List.pairwise_map.mpr (ns.up.imp_of_mem fun {x y} hx hy l e => ?_), fun x hx y hy e => ?_⟩
    · have := ns.one x hx y hy e
      rw [this] at l
      omega
    · obtain ⟨q, hq, rfl⟩ := List.mem_map.mp hx
      obtain ⟨c, hc, rfl⟩ := List.mem_map.mp hy
      exact ns.box q hq c hc e
  refine ⟨L, _, bl ++ bl.map BB.swp, rfl, upd_same, prs_same prA fun p zs e => s4 _ _ e, ndp, by rw [List.length_append, List.length_map]; omega, fun ml zs l pm pw prM hl => ?_⟩
  have s5 := same_new hl (.lst zs)
  have mk : BB.Mks bl ml := by
    refine ⟨pw, fun z => ?_⟩
    rw [pm.mem_iff, List.mem_append, List.mem_map]
    constructor
    · rintro (h | ⟨c, hc, rfl⟩)
      · exact .inl h
      · exact .inr hc
    · rintro (h | h)
      · exact .inl h
      · exact .inr ⟨_, h, rfl⟩
  have lm : ml.length ≤ 24 := by rw [pm.length_eq, List.length_append, List.length_map]; omega
  have ll : ∀ n, (BB.left bl ml n).length ≤ 24 := fun n => Nat.le_trans (List.length_filter_le _ _) lm
  have tm0 : Tm H (upd (upd H3 L (.lst (xs ++ ys))) l (.lst zs)) d l bl ml 1 := by
    refine ⟨s1.trans (s3.trans (s4.trans s5)), hd, Nat.le_refl _, by have := ll 1; omega, ⟨zs, upd_same, ?_⟩, ⟨[], s5 _ _ (s4 _ _ (s3 _ _ hd1)), fun z => ?_, Nat.zero_le _⟩⟩
    · rw [BB.left_one ns mk]
      exact prs_same prM fun p zs e => s5 _ _ e
    · rw [valV_nil, if_neg]
      rintro ⟨h1, h2⟩
      have := BB.dep_pos ns z h1
      omega
  generalize upd (upd H3 L (.lst (xs ++ ys))) l (.lst zs) = H5 at tm0 ⊢
  show tSeq (tWhile _ _) _ _ _ _
  refine seq_whileT ?_
  refine while_by (fun σ H' => ∃ (l : Addr) (n : Nat) (o4 o5 o6 : Option V), σ = [some (.ref a), some (.ref d), some (.ref l), some (.int (n : Int)), o4, o5, o6] ∧ Tm H H' d l bl ml n) lenT ⟨l, 1, _, _, _, rfl, tm0⟩ (fun σ H' hp => ?_) (fun σ H Q Q' hq h => ?_)
  · obtain ⟨l, n, o4, o5, o6, rfl, tm⟩ := hp
    have n1 := tm.n1
    obtain ⟨zs, hl, prl⟩ := tm.ln
    have lmm := lenT_at (o1 := some (V.ref a)) (o2 := some (V.ref d)) (o3 := some (V.int (n : Int))) (o4 := o4) (o5 := o5) (o6 := o6) hl
    refine ⟨_, rfl, (by show 0 ≤ sizeLine; decide), fun e he => ?_⟩
    have s6 := same_new he (.lst [])
    refine ⟨l, e, zs, rfl, rfl, SqL.of (s6 _ _ hl), SqL.of upd_same, _, rfl, ?_⟩
    have tm6 := tm.same s6
    generalize upd H' e (.lst []) = H6 at s6 tm6 ⊢
    by_cases ez : BB.left bl ml n = []
    · have zz : zs = [] := List.length_eq_zero_iff.mp (by rw [prl.1, ez]; rfl)
      subst zz
      refine iteF ?_
      have ha6 := tm6.sm _ _ ha
      have prx : Prs H6 xs bl := prs_same pr fun p zs e => tm6.sm _ _ e
      obtain ⟨kvs, hkv, kno, kl⟩ := tm6.kn
      refine ⟨_, rfl, a, rfl, ⟨_, SqL.of ha6⟩, fun D hD => ?_⟩
      refine comp_go xs.length (by rw [sizeLine_eq]; omega) (fun i => .int (BB.dep bl (bl.getD i (0, 0)) : Int)) (fun σ => ∃ o1, σ = [o1, some (.ref d)]) _ hD (by exact ⟨_, rfl⟩) (items_lst ha6) (fun i z σ' H2 hi s2 im hσ R hR => ?_) (fun H9 s9 hD9 => ?_)
      · obtain ⟨o1, rfl⟩ := hσ
        obtain ⟨p, b, rfl, eb, hp⟩ := prs_get prx im
        have bm : b ∈ bl := List.mem_of_getElem? eb
        have bn : BB.dep bl b < n := by
          rcases Nat.lt_or_ge (BB.dep bl b) n with w | w
          · exact w
          · have : b ∈ BB.left bl ml n := List.mem_filter.mpr ⟨(mk.mem b).mpr (.inl bm), decide_eq_true (by rw [(BB.nrm_of ns bm).1]; exact w)⟩
            rw [ez] at this
            cases this
        refine ⟨_, rfl, _, rfl, d, _, rfl, ?_, hR _ _ _ ⟨_, rfl⟩ (Same.refl _) (by rw [getD_at eb])⟩
        have := DGet.t (s2 _ _ hkv) (k := ky b) (s2 _ _ hp)
        rw [kno b, if_pos ⟨bm, bn⟩] at this
        exact this
      refine q D H9 (tm6.sm.trans s9) ?_
      rw [hD9]
      unfold dps
      rw [lx, List.map_map]
      congr 2
      exact BB.all_list (0, 0) bl (fun q => V.int (BB.dep bl q : Int))
    · have ne : zs ≠ [] := fun z => by
        rw [z] at prl
        exact ez (List.length_eq_zero_iff.mp prl.1.symm)
      have nz : zs.isEmpty = false := by cases zs with | nil => exact absurd rfl ne | cons _ _ => rfl
      rw [nz]
      refine iteT ?_
      obtain ⟨zs6, hl6, prl6⟩ := tm6.ln
      have ez6 : zs6 = zs := by
        have := s6 _ _ hl
        rw [hl6] at this
        exact HO.lst.inj (Option.some.inj this)
      subst ez6
      have zl : zs6.length = (BB.left bl ml n).length := prl6.1
      have zl24 := ll n
      -- the neighbours
      refine ⟨_, rfl, _, rfl, _, rfl, l, _, rfl, SqL.of hl6, fun t ht => ?_⟩
      have s7 := same_new ht (.lst (cutV zs6 (some 1) none))
      have ht7 : (upd H6 t (.lst (cutV zs6 (some 1) none))) t = some (.lst (zs6.drop 1)) := by rw [upd_same, show (1 : Int) = ((1 : Nat) : Int) from rfl, cut_from]
      have tm7 := tm6.same s7
      have hl7 := s7 _ _ hl6
      have prl7 : Prs (upd H6 t (.lst (cutV zs6 (some 1) none))) zs6 (BB.left bl ml n) := prs_same prl6 fun p zs e => s7 _ _ e
      generalize upd H6 t (.lst (cutV zs6 (some 1) none)) = H7 at s7 ht7 tm7 hl7 prl7 ⊢
      refine ⟨l, t, _, _, rfl, SqL.of hl7, SqL.of ht7, fun D hD => ?_⟩
      have hmin : min zs6.length (zs6.drop 1).length = zs6.length - 1 := by rw [List.length_drop]; omega
      refine comp_any (zs6.length - 1) (by rw [sizeLine_eq]; omega) (fun i σ H' ys => (∃ o1 o2, σ = [o1, o2]) ∧ Same H7 H' ∧ H' D = some (.lst ys) ∧ Inn H' zs6 ys ((List.range i).filter fun k => adjB (BB.left bl ml n) k)) (fun i H3 v => ∃ p x y, v = .ref p ∧ H3 p = some (.tup [x, y]) ∧ zs6[i]? = some x ∧ (zs6.drop 1)[i]? = some y) ?_ (fun i σ H' ys h => ?_) (fun i σ H' ys h => ?_) (fun i x σ H' H2 ys hi h s2 im A B hA hB => ?_) (fun σ H' ys h => ?_)
      · exact ⟨⟨_, _, rfl⟩, (Same.refl H7).upd_free hD _, upd_same, rfl, fun j k e => by cases e⟩
      · refine ⟨h.2.2.1, ?_⟩
        rw [h.2.2.2.1]
        have := List.length_filter_le (fun k => adjB (BB.left bl ml n) k) (List.range i)
        rw [List.length_range] at this
        exact this
      · have := items_zipL (K := K) (h.2.1 _ _ hl7) (h.2.1 _ _ ht7) i H' (Same.refl _)
        rw [hmin] at this
        exact this
      · obtain ⟨⟨o1, o2, rfl⟩, sm2, hD2, inn⟩ := h
        obtain ⟨p, u, v, rfl, hp, hu, hv⟩ := im
        rw [List.getElem?_drop, Nat.add_comm] at hv
        obtain ⟨pu, bu, rfl, ebu, hpu⟩ := prs_get prl7 hu
        obtain ⟨pv_, bv, rfl, ebv, hpv⟩ := prs_get prl7 hv
        have S2 := sm2.trans s2
        have hpu2 := S2 _ _ hpu
        have hpv2 := S2 _ _ hpv
        have hD2' := s2 _ _ hD2
        have adj : adjB (BB.left bl ml n) i = (decide (bu.2 = bv.1) && decide (bu.1 < bu.2)) := by
          unfold adjB
          rw [getD_at ebu, getD_at ebv]
        have inn2 : Inn H2 zs6 ys ((List.range i).filter fun k => adjB (BB.left bl ml n) k) := ⟨inn.1, fun j k e => let ⟨p, u, v, a1, a2, a3⟩ := inn.2 j k e; ⟨p, u, v, a1, s2 _ _ a2, a3⟩⟩
        have no : adjB (BB.left bl ml n) i = false → (List.range (i + 1)).filter (fun k => adjB (BB.left bl ml n) k) = (List.range i).filter fun k => adjB (BB.left bl ml n) k := fun z => by
          rw [List.range_succ, List.filter_append, List.filter_cons, List.filter_nil, if_neg (by rw [z]; exact Bool.false_ne_true), List.append_nil]
        refine ⟨p, _, rfl, SqT.of hp, rfl, _, _, rfl, _, _, rfl, rfl, ?_⟩
        refine ⟨_, rfl, pu, _, _, _, rfl, rfl, SqT.of hpu2, (show atI [V.int bu.1, V.int bu.2] ((1 : Nat) : Int) = some (.int bu.2) from atI_nat rfl), _, rfl, pv_, _, _, _, rfl, rfl, SqT.of hpv2, (show atI [V.int bv.1, V.int bv.2] ((0 : Nat) : Int) = some (.int bv.1) from atI_nat rfl), rfl, _, rfl, ?_⟩
        by_cases c1 : bu.2 = bv.1
        · rw [decide_eq_true (congrArg V.int c1)]
          refine iteT ?_
          refine ⟨_, rfl, pu, _, _, _, rfl, rfl, SqT.of hpu2, (show atI [V.int bu.1, V.int bu.2] ((0 : Nat) : Int) = some (.int bu.1) from atI_nat rfl), _, rfl, pu, _, _, _, rfl, rfl, SqT.of hpu2, (show atI [V.int bu.1, V.int bu.2] ((1 : Nat) : Int) = some (.int bu.2) from atI_nat rfl), _, _, rfl, rfl, _, rfl, ?_⟩
          by_cases c2 : bu.1 < bu.2
          · rw [decide_eq_true c2]
            refine iteT ⟨_, rfl, _, rfl, (by show 2 ≤ sizeLine; decide), fun tt htt => ?_⟩
            have s8 := same_new htt (.tup [.ref pu, .ref pv_])
            have tD : tt ≠ D := fun z => by rw [z, hD2'] at htt; cases htt
            refine hA _ _ _ (s8 _ _ hD2') ⟨⟨_, _, rfl⟩, (S2.trans s8).upd_free hD _, upd_same, ?_⟩
            have z1 : adjB (BB.left bl ml n) i = true := by rw [adj, decide_eq_true c1, decide_eq_true c2]; rfl
            rw [List.range_succ, List.filter_append, List.filter_cons, List.filter_nil, if_pos z1]
            refine ⟨by rw [List.length_append, List.length_append, inn2.1]; rfl, fun j k e => ?_⟩
            by_cases cj : j < ys.length
            · rw [List.getElem?_append_left (by rw [← inn2.1]; exact cj)] at e
              obtain ⟨p', u', v', a1, a2, a3⟩ := inn2.2 j k e
              refine ⟨p', u', v', by rw [List.getElem?_append_left cj]; exact a1, ?_, a3⟩
              rw [upd_ne (fun z => by rw [z, hD2'] at a2; cases a2)]
              exact s8 _ _ a2
            · have jl : j = ys.length := by
                have := (List.getElem?_eq_some_iff.mp e).1
                rw [List.length_append, ← inn2.1, List.length_singleton] at this
                omega
              subst jl
              rw [inn2.1, List.getElem?_append_right (Nat.le_refl _), Nat.sub_self] at e
              have ek : k = i := by simpa using e.symm
              subst ek
              refine ⟨tt, .ref pu, .ref pv_, by rw [List.getElem?_append_right (Nat.le_refl _), Nat.sub_self]; rfl, by rw [upd_ne tD, upd_same], hu, hv⟩
          · rw [decide_eq_false c2]
            refine iteF (hB _ _ ⟨⟨_, _, rfl⟩, S2, hD2', ?_⟩)
            rw [no (by rw [adj, decide_eq_false c2, Bool.and_false])]
            exact inn2
        · rw [decide_eq_false (fun z => c1 (V.int.inj z))]
          refine iteF (iteF (hB _ _ ⟨⟨_, _, rfl⟩, S2, hD2', ?_⟩))
          rw [no (by rw [adj, decide_eq_false c1]; rfl)]
          exact inn2
      obtain ⟨_, s8, hD8, inn⟩ := h
      have tm8 := tm7.same s8
      have prl8 : Prs H' zs6 (BB.left bl ml n) := prs_same prl7 fun p zs e => s8 _ _ e
      have hl8 := s8 _ _ hl7
      have dD : d ≠ D := by
        obtain ⟨kvs, hk, _⟩ := tm7.kn
        exact ne_of_none hk hD
      clear prl7 hl7 tm7 prl6 hl6
      generalize hks : (List.range (zs6.length - 1)).filter (fun k => adjB (BB.left bl ml n) k) = ks at inn
      have ksl : ks.length ≤ 24 := by
        rw [← hks]
        have := List.length_filter_le (fun k => adjB (BB.left bl ml n) k) (List.range (zs6.length - 1))
        rw [List.length_range] at this
        omega
      have kadj : ∀ k ∈ ks, ∃ b c, (BB.left bl ml n)[k]? = some b ∧ (BB.left bl ml n)[k + 1]? = some c ∧ b ∈ bl ∧ BB.dep bl b = n := fun k hk => by
        rw [← hks] at hk
        obtain ⟨k1, k2⟩ := List.mem_filter.mp hk
        have k1 := List.mem_range.mp k1
        have g1 := List.getElem?_eq_getElem (show k < (BB.left bl ml n).length by omega)
        have g2 := List.getElem?_eq_getElem (show k + 1 < (BB.left bl ml n).length by omega)
        unfold adjB at k2
        rw [getD_at g1, getD_at g2, Bool.and_eq_true, decide_eq_true_iff, decide_eq_true_iff] at k2
        exact ⟨_, _, g1, g2, BB.left_adj ns mk n1 g1 g2 k2.1 k2.2⟩
      have kall : ∀ b ∈ bl, BB.dep bl b = n → ∃ k ∈ ks, (BB.left bl ml n)[k]? = some b := fun b hb e => by
        obtain ⟨t, t1, t2⟩ := BB.adj_left ns mk hb e
        refine ⟨t, ?_, t1⟩
        rw [← hks]
        have tl := (List.getElem?_eq_some_iff.mp t2).1
        refine List.mem_filter.mpr ⟨List.mem_range.mpr (by omega), ?_⟩
        show adjB _ _ = true
        unfold adjB
        rw [getD_at t1, getD_at t2, Bool.and_eq_true, decide_eq_true_iff, decide_eq_true_iff]
        exact ⟨rfl, ns.lt b hb⟩
      -- they are known
      obtain ⟨kvs, hkv, kno, kl⟩ := tm8.kn
      refine ⟨_, rfl, D, rfl, ⟨_, SqL.of hD8⟩, ?_⟩
      refine for_list (xs := ys) (fun j σ H9 => ∃ (o5 o6 : Option V) (kvs' : List (List Key × V)), σ = [some (.ref a), some (.ref d), some (.ref l), some (.int (n : Int)), some (.ref D), o5, o6] ∧ (∀ c o, c ≠ d → H' c = some o → H9 c = some o) ∧ H9 d = some (.dT kvs') ∧ kvs'.length ≤ 24 * n + j ∧
          ∀ z : Int × Int, valV kvs' (ky z) = if (z ∈ bl ∧ BB.dep bl z < n) ∨ ∃ k ∈ ks.take j, (BB.left bl ml n)[k]? = some z then some (.int (BB.dep bl z : Int)) else none) ?_ (fun j σ H9 _ hp => ?_) (fun j x σ H9 hx hp => ?_) (fun σ H9 hp => ?_)
      · refine ⟨_, _, kvs, rfl, fun c o _ e => e, hkv, by omega, fun z => ?_⟩
        rw [kno z]
        congr 1
        rw [List.take_zero]
        simp
      · obtain ⟨o5, o6, kvs', rfl, kp, hk9, _⟩ := hp
        exact SqL.of (kp _ _ dD.symm hD8)
      · obtain ⟨o5, o6, kvs', rfl, kp, hk9, kl9, kn9⟩ := hp
        have jl : j < ks.length := by rw [← inn.1]; exact (List.getElem?_eq_some_iff.mp hx).1
        have ejk := List.getElem?_eq_getElem jl
        obtain ⟨p, u, v, e1, e2, e3, e4⟩ := inn.2 j _ ejk
        rw [hx] at e1
        cases e1
        obtain ⟨b, c, eb, ec, bm, bd⟩ := kadj _ (List.getElem_mem jl)
        obtain ⟨pu, b', eu, eb', hpu⟩ := prs_get prl8 e3
        rw [eb] at eb'
        cases eb'
        subst eu
        have tup : ∀ q zs, H' q = some (.tup zs) → H9 q = some (.tup zs) := fun q zs e => kp _ _ (fun z => by rw [z, hkv] at e; cases e) e
        refine ⟨p, _, rfl, SqT.of (tup _ _ e2), rfl, _, _, rfl, _, _, rfl, rfl, ?_⟩
        refine ⟨_, rfl, _, rfl, _, rfl, d, _, rfl, DPut.t (k := ky b) hk9 (tup _ _ hpu) (by rw [sizeLine_eq]; have := tm8.nl; omega), ?_⟩
        refine ⟨_, _, putK kvs' (ky b) (.int (n : Int)), rfl, fun c o n e => by rw [upd_ne n]; exact kp c o n e, upd_same, ?_, fun z => ?_⟩
        · unfold putK
          split
          · rw [List.length_map]; omega
          · rw [List.length_append, List.length_singleton]; omega
        · rw [valV_put, kn9 z]
          have tk : ks.take (j + 1) = ks.take j ++ [ks[j]] := by rw [List.take_succ, ejk]; rfl
          by_cases c : ky z = ky b
          · have ez := ky_inj c
            subst ez
            rw [if_pos rfl, if_pos (.inr ⟨ks[j], by rw [tk]; exact List.mem_append_right _ (List.mem_singleton.mpr rfl), eb⟩), bd]
          · rw [if_neg c]
            congr 1
            rw [eq_iff_iff, tk]
            constructor
            · rintro (h | ⟨k, hk, e⟩)
              · exact .inl h
              · exact .inr ⟨k, List.mem_append_left _ hk, e⟩
            · rintro (h | ⟨k, hk, e⟩)
              · exact .inl h
              · rcases List.mem_append.mp hk with w | w
                · exact .inr ⟨k, w, e⟩
                · rw [List.mem_singleton] at w
                  subst w
                  rw [eb] at e
                  cases e
                  exact absurd rfl c
      obtain ⟨o5, o6, kvs', rfl, kp, hk9, kl9, kn9⟩ := hp
      rw [inn.1] at kl9 kn9
      rw [List.take_length] at kn9
      have kno9 : Kno bl kvs' (n + 1) := fun z => by
        rw [kn9 z]
        by_cases c : z ∈ bl ∧ BB.dep bl z < n + 1
        · rw [if_pos c, if_pos]
          rcases Nat.lt_or_ge (BB.dep bl z) n with w | w
          · exact .inl ⟨c.1, w⟩
          · obtain ⟨k, k1, k2⟩ := kall z c.1 (by omega)
            exact .inr ⟨k, k1, k2⟩
        · rw [if_neg c, if_neg]
          rintro (h | ⟨k, hk, e⟩)
          · exact c ⟨h.1, by omega⟩
          · obtain ⟨b, _, eb, _, bm, bd⟩ := kadj k hk
            rw [eb] at e
            cases e
            exact c ⟨bm, by omega⟩
      have tup : ∀ q zs, H' q = some (.tup zs) → H9 q = some (.tup zs) := fun q zs e => kp _ _ (fun z => by rw [z, hkv] at e; cases e) e
      have prl9 : Prs H9 zs6 (BB.left bl ml n) := prs_same prl8 tup
      have ld : l ≠ d := ne_of hl8 hkv (by intro z; cases z)
      have hl9 := kp _ _ ld hl8
      have sm9 : Same H H9 := fun c o e => kp c o (ne_of_none e tm8.d0) (tm8.sm c o e)
      -- the others are left
      refine ⟨_, rfl, l, rfl, ⟨_, SqL.of hl9⟩, fun D2 hD2 => ?_⟩
      refine comp_sel zs6.length (by rw [sizeLine_eq]; omega) (fun i => decide (BB.dep bl (BB.nrm ((BB.left bl ml n).getD i (0, 0))) ≠ n)) (fun i => zs6.getD i V.non) (fun σ => ∃ o1, σ = [o1, some (.ref d)]) _ hD2 (by exact ⟨_, rfl⟩) (items_lst hl9) (fun i x σ' H2 hi s2 im hσ R S hR hS => ?_) (fun HA sA hDA => ?_)
      · obtain ⟨o1, rfl⟩ := hσ
        have ex : zs6.getD i V.non = x := by rw [List.getD_eq_getElem?_getD, im]; rfl
        obtain ⟨p, b, rfl, eb, hp⟩ := prs_get prl9 im
        rw [getD_at eb] at hR hS
        rw [ex] at hR
        have hp2 := s2 _ _ hp
        have hk2 := s2 _ _ hk9
        obtain ⟨b1, b2⟩ := List.mem_filter.mp (List.mem_of_getElem? eb)
        have b2 := of_decide_eq_true b2
        obtain ⟨nb, ob⟩ := BB.nrm_mem ns mk b1
        have g1 := DGet.t hk2 (k := ky b) hp2
        rw [kno9 b] at g1
        refine ⟨_, rfl, _, rfl, d, _, rfl, g1, _, rfl, ?_⟩
        have stay : ∀ z : Int × Int, z ∈ bl → (z ∈ bl ∧ BB.dep bl z < n + 1 ↔ BB.dep bl z < n + 1) := fun z hz => ⟨fun h => h.2, fun h => ⟨hz, h⟩⟩
        rcases ob with w | w
        · -- a ball's mark
          rw [← w] at nb b2 hR hS
          by_cases c : BB.dep bl b < n + 1
          · rw [if_pos ⟨nb, c⟩]
            exact iteF (iteF (hS (decide_eq_false (by omega)) _ _ ⟨_, rfl⟩ (Same.refl _)))
          · rw [if_neg (fun z => c z.2)]
            refine iteT ?_
            refine ⟨_, rfl, p, _, rfl, hp2, fun tt htt => ⟨_, rfl, d, valV kvs' (ky (BB.swp b)), rfl, ?_⟩⟩
            have s3 := same_new htt (.tup [V.int b.1, V.int b.2].reverse)
            refine ⟨DGet.t (s3 _ _ hk2) (k := ky (BB.swp b)) (by rw [upd_same]; rfl), _, rfl, ?_⟩
            rw [kno9 (BB.swp b), if_neg (fun z => by have h1 := ns.lt _ z.1; have h2 := ns.lt b nb; simp only [BB.swp] at h1; omega)]
            exact iteT ⟨_, rfl, hR (decide_eq_true (by omega)) _ _ _ ⟨_, rfl⟩ s3 rfl⟩
        · -- a box's mark
          have nn : ¬ (b ∈ bl ∧ BB.dep bl b < n + 1) := fun z => by
            have h1 := ns.lt b z.1
            have h2 := ns.lt _ nb
            have e1 := congrArg Prod.fst w
            have e2 := congrArg Prod.snd w
            simp only [BB.swp] at e1 e2
            omega
          rw [if_neg nn]
          refine iteT ?_
          refine ⟨_, rfl, p, _, rfl, hp2, fun tt htt => ⟨_, rfl, d, valV kvs' (ky (BB.swp b)), rfl, ?_⟩⟩
          have s3 := same_new htt (.tup [V.int b.1, V.int b.2].reverse)
          have es : BB.swp b = BB.nrm b := by
            have := congrArg BB.swp w
            rw [BB.swp_swp] at this
            exact this
          refine ⟨DGet.t (s3 _ _ hk2) (k := ky (BB.swp b)) (by rw [upd_same]; rfl), _, rfl, ?_⟩
          rw [kno9 (BB.swp b), es]
          by_cases c : BB.dep bl (BB.nrm b) < n + 1
          · rw [if_pos ⟨nb, c⟩]
            exact iteF (hS (decide_eq_false (by omega)) _ _ ⟨_, rfl⟩ s3)
          · rw [if_neg (fun z => c z.2)]
            exact iteT ⟨_, rfl, hR (decide_eq_true (by omega)) _ _ _ ⟨_, rfl⟩ s3 rfl⟩
      have dD2 : d ≠ D2 := ne_of_none hk9 hD2
      refine ⟨_, rfl, _, _, rfl, rfl, ?_⟩
      have lt := BB.left_less ns mk (n := n - 1) (by rw [show n - 1 + 1 = n by omega]; exact ez)
      rw [show n - 1 + 2 = n + 1 by omega, show n - 1 + 1 = n by omega] at lt
      have prA : Prs HA (((List.range zs6.length).filter fun i => decide (BB.dep bl (BB.nrm ((BB.left bl ml n).getD i (0, 0))) ≠ n)).map fun i => zs6.getD i V.non) (BB.left bl ml (n + 1)) := by
        rw [← BB.left_next n]
        have e0 := BB.sel_list (0, 0) (BB.left bl ml n) (fun z => decide (BB.dep bl (BB.nrm z) ≠ n)) id
        rw [List.map_id] at e0
        rw [← e0, zl]
        refine ⟨by rw [List.length_map, List.length_map], fun j b e => ?_⟩
        rw [List.getElem?_map] at e
        obtain ⟨i, ei, eb⟩ := Option.map_eq_some_iff.mp e
        have il : i < (BB.left bl ml n).length := List.mem_range.mp (List.mem_filter.mp (List.mem_of_getElem? ei)).1
        have gi := List.getElem?_eq_getElem il
        have ebb : (BB.left bl ml n)[i]? = some b := by rw [gi, ← eb]; show some _ = some (id _); rw [getD_at gi]; rfl
        obtain ⟨p, e1, e2⟩ := prl9.2 i b ebb
        refine ⟨p, ?_, sA _ _ e2⟩
        rw [List.getElem?_map, ei]
        show some (zs6.getD i V.non) = _
        rw [List.getD_eq_getElem?_getD, e1]
        rfl
      refine ⟨⟨D2, n + 1, _, _, _, by rw [show ((n + 1 : Nat) : Int) = (n : Int) + 1 by omega]; rfl, ⟨sm9.trans sA, tm8.d0, by omega, by have := tm8.nl; omega, ⟨_, hDA, prA⟩, ⟨kvs', sA _ _ hk9, kno9, by omega⟩⟩⟩, ?_⟩
      show lenT [_, _, some (V.ref D2), _, _, _, _] _ < _
      rw [lenT_at hDA, lmm, prA.1, zl]
      exact lt
  · obtain ⟨v, e, h1, h2⟩ := h
    refine ⟨v, e, h1, fun p hp => ?_⟩
    obtain ⟨a, b, xs, e1, e2, s1, s2, k, e3, q1⟩ := h2 p hp
    exact ⟨a, b, xs, e1, e2, s1, s2, k, e3, hq _ _ q1⟩
end
end K42
end
section
namespace K42
open PySem PySem.Spec PyProof.Rows L2
set_option maxHeartbeats 4000000
set_option maxRecDepth 100000
set_option Elab.async false
set_option linter.unusedVariables false
/-- what is kept of the pairs that are told, the last first -/
def inR (bl : List (Int × Int)) : List (Int × Int) := (bl.map fun q => (q.2, (BB.dep bl q : Int))).reverse
theorem inR_cons {c : Int × Int} {r : List (Int × Int)} (h : BB.Nst (c :: r)) : inR (c :: r) = inR r ++ [(c.2, (BB.dep (c :: r) c : Int))] := by
  unfold inR
  rw [List.map_cons, List.reverse_cons]
  congr 2
  exact List.map_congr_left fun q hq => by rw [BB.dep_tail h hq]
theorem dps_cons {c : Int × Int} {r : List (Int × Int)} (h : BB.Nst (c :: r)) : dps (c :: r) = (BB.dep (c :: r) c : Int) :: dps r := by
  unfold dps
  rw [List.map_cons]
  congr 1
  exact List.map_congr_left fun q hq => by rw [BB.dep_tail h hq]
def nsR (c : Int × Int) (r : List (Int × Int)) : List Int := ((inR r).filter fun z => decide (z.1 < c.2)).map (·.2)
theorem mem_nsR {c : Int × Int} {r : List (Int × Int)} {x : Int} : x ∈ nsR c r ↔ ∃ q ∈ r, q.2 < c.2 ∧ x = (BB.dep r q : Int) := by
  unfold nsR inR
  constructor
  · intro h
    obtain ⟨z, hz, rfl⟩ := List.mem_map.mp h
    obtain ⟨h1, h2⟩ := List.mem_filter.mp hz
    obtain ⟨q, hq, rfl⟩ := List.mem_map.mp (List.mem_reverse.mp h1)
    exact ⟨q, hq, of_decide_eq_true h2, rfl⟩
  · rintro ⟨q, hq, l, rfl⟩
    exact List.mem_map.mpr ⟨(q.2, (BB.dep r q : Int)), List.mem_filter.mpr ⟨List.mem_reverse.mpr (List.mem_map.mpr ⟨q, hq, rfl⟩), decide_eq_true l⟩, rfl⟩
theorem dep_is {c : Int × Int} {r : List (Int × Int)} {m : Int} (h : (nsR c r = [] ∧ m = 0) ∨ (m ∈ nsR c r ∧ ∀ x ∈ nsR c r, x ≤ m)) : 1 + m = (BB.dep (c :: r) c : Int) := by
  rw [BB.dep_head]
  have up : ∀ q ∈ r, q.2 < c.2 → BB.dep r q ≤ BB.mx ((r.filter fun e => decide (e.2 < c.2)).map (BB.dep r)) := fun q hq l => BB.le_mx (List.mem_map_of_mem (f := BB.dep r) (List.mem_filter.mpr ⟨hq, decide_eq_true l⟩))
  have lo : BB.mx ((r.filter fun e => decide (e.2 < c.2)).map (BB.dep r)) = 0 ∨ ∃ q ∈ r, q.2 < c.2 ∧ BB.dep r q = BB.mx ((r.filter fun e => decide (e.2 < c.2)).map (BB.dep r)) := by
    rcases BB.mx_mem ((r.filter fun e => decide (e.2 < c.2)).map (BB.dep r)) with z | z
    · exact .inl z
    · obtain ⟨q, hq, e⟩ := List.mem_map.mp z
      obtain ⟨h1, h2⟩ := List.mem_filter.mp hq
      exact .inr ⟨q, h1, of_decide_eq_true h2, e⟩
  generalize BB.mx ((r.filter fun e => decide (e.2 < c.2)).map (BB.dep r)) = M at up lo ⊢
  have e : m = (M : Int) := by
    rcases h with ⟨n, rfl⟩ | ⟨hm, hx⟩
    · rcases lo with z | ⟨q, h1, h2, h3⟩
      · rw [z]; rfl
      · have := mem_nsR.mpr ⟨q, h1, h2, rfl⟩
        rw [n] at this
        cases this
    · obtain ⟨q, h1, h2, h3⟩ := mem_nsR.mp hm
      have u := up q h1 h2
      rcases lo with z | ⟨q', h1', h2', h3'⟩
      · omega
      · have := hx _ (mem_nsR.mpr ⟨q', h1', h2', rfl⟩)
        omega
  rw [e, Int.natCast_add]
  rfl
def spDp : Sp := fun vs H Q _ => ∃ (a : Addr) (row : List Int), vs = [.ref a] ∧ H a = some (.tup (row.map V.int)) ∧ row.Pairwise (· < ·) ∧ row.length ≤ 12 ∧
  ∀ (r : Addr) (bl : List (Int × Int)) (H' : Hp), Same H H' → H r = none → H' r = some (.lst ((dps bl).map V.int)) → bl.map (·.1) = row → BB.FD row bl → Q (.ref r) H'
structure Dp (H0 H : Hp) (t n rp : Addr) (zs : List V) (bl sl : List (Int × Int)) : Prop where
  sm : Same H0 H
  t0 : H0 t = none
  n0 : H0 n = none
  tn : t ≠ n
  rt : rp ≠ t
  rn : rp ≠ n
  hz : H rp = some (.lst zs)
  pz : Prs H zs bl
  ht : H t = some (.lst ((dps sl).reverse.map V.int))
  hn : ∃ ys, H n = some (.lst ys) ∧ Prs H ys (inR sl)
theorem Dp.same {H0 H H' : Hp} {t n rp : Addr} {zs : List V} {bl sl : List (Int × Int)} (d : Dp H0 H t n rp zs bl sl) (s : Same H H') : Dp H0 H' t n rp zs bl sl := by
  obtain ⟨ys, h1, h2⟩ := d.hn
  exact ⟨d.sm.trans s, d.t0, d.n0, d.tn, d.rt, d.rn, s _ _ d.hz, prs_same d.pz fun p xs e => s _ _ e, s _ _ d.ht, ⟨ys, s _ _ h1, prs_same h2 fun p xs e => s _ _ e⟩⟩
theorem Dp.push {H0 H : Hp} {t n rp p : Addr} {zs ys : List V} {bl sl : List (Int × Int)} {c : Int × Int} {x : Int} (d : Dp H0 H t n rp zs bl sl) (ns : BB.Nst (c :: sl)) (ex : x = (BB.dep (c :: sl) c : Int)) (hn : H n = some (.lst ys)) (pn : Prs H ys (inR sl)) (hp : H p = none) :
    (upd H p (.tup [.int c.2, .int x])) n = some (.lst ys) ∧ (upd (upd H p (.tup [.int c.2, .int x])) n (.lst (ys ++ [.ref p]))) t = some (.lst ((dps sl).reverse.map V.int)) ∧
    Dp H0 (upd (upd (upd H p (.tup [.int c.2, .int x])) n (.lst (ys ++ [.ref p]))) t (.lst ((dps sl).reverse.map V.int ++ [.int x]))) t n rp zs bl (c :: sl) := by
  have pn' : p ≠ n := (ne_of_none hn hp).symm
  have pt' : p ≠ t := (ne_of_none d.ht hp).symm
  have pr' : p ≠ rp := (ne_of_none d.hz hp).symm
  have tupk : ∀ q xs, H q = some (.tup xs) → (upd (upd (upd H p (.tup [.int c.2, .int x])) n (.lst (ys ++ [.ref p]))) t (.lst ((dps sl).reverse.map V.int ++ [.int x]))) q = some (.tup xs) := fun q xs e => by
    rw [upd_ne (fun z => by rw [z, d.ht] at e; cases e), upd_ne (fun z => by rw [z, hn] at e; cases e), upd_ne (fun z => by rw [z, hp] at e; cases e)]
    exact e
  refine ⟨by rw [upd_ne pn'.symm]; exact hn, by rw [upd_ne d.tn, upd_ne pt'.symm]; exact d.ht, fun q o e => ?_, d.t0, d.n0, d.tn, d.rt, d.rn, ?_, prs_same d.pz tupk, ?_, ⟨ys ++ [.ref p], ?_, ?_⟩⟩
  · rw [upd_ne (ne_of_none e d.t0), upd_ne (ne_of_none e d.n0), upd_ne (ne_of_none (d.sm _ _ e) hp)]
    exact d.sm _ _ e
  · rw [upd_ne d.rt, upd_ne d.rn, upd_ne pr'.symm]
    exact d.hz
  · rw [upd_same, dps_cons ns, List.reverse_cons, List.map_append, ex]
    rfl
  · rw [upd_ne d.tn.symm, upd_same]
  · rw [inR_cons ns]
    exact prs_snoc (prs_same pn tupk) (by rw [upd_ne pt', upd_ne pn', upd_same, ex])
section
variable {P : Program} {w : World} {K : PySem.W.Frag} {mg : Str → Option Value} {base : Heap}
set_option maxRecDepth 100000 in
theorem ok_depths {f : Addr} {fd : FuncData} (F : Fun K "depths" "depths" s_depths f fd) (nb : Nb3 mg) (h_pairs : Has P w K mg base 1 "pairs" ["row"] spPairs)  :
    FnOk P w K mg base CX0 2 f fd ["row"] spDp := by
  have nd := sc_depths.nd
  refine F.ok (k := 1) sc_depths (fun vs H Q E h => ?_) (fun cdv A outer s H vs Q E hr h => ?_)
  · obtain ⟨a, row, rfl, _⟩ := h
    rfl
  obtain ⟨a, row, rfl, ha, up, r12, q⟩ := h
  refine ⟨_, (pss_cons (ps_set (i := 1) nd rfl (Or.inl rfl) (pe_lst pa_nil))
(pss_cons (ps_set (i := 2) nd rfl (Or.inl rfl) (pe_lst pa_nil))
(pss_cons (ps_for PassesOwn.never rfl (pi_revL rfl nb.rev (pa_cons (pe_def h_pairs hr (pa_cons (pv 0) pa_nil)) pa_nil)) (pg_tup rfl (pgs_cons (pg_name (i := 3) nd rfl (Or.inl rfl)) (pgs_cons (pg_name (i := 4) nd rfl (Or.inr rfl)) pgs_nil)))
(pss_cons (ps_set (i := 5) nd rfl (Or.inl rfl) (pe_op op_add pe_int (pe_maxD rfl rfl nb.max (pa_cons (pe_comp2 (sc := defScope s_depths) (N0 := ["row", "told", "inner", "ball", "box", "depth"]) (N := ["box"]) (js := [4]) rfl rfl rfl (by exact ⟨rfl, by decide +kernel, by decide +kernel, by decide +kernel, rfl, rfl, by decide, by decide +kernel, by decide +kernel⟩) rfl rfl
(pi_list (pv 2))
(fun _ _ _ _ _ => by exact (pts_one (pt_cmpR op_lt (pv 0) (pv 2) (nomark _))))
(fun _ _ _ _ _ => by exact (pv 1))) pa_nil))))
(pss_cons (ps_expr (pe_bm PySem.F.plainAttrs_list PySem.F.slot_list_append PySem.F.type_list_append mt_append (pv 2) (pa_cons (pe_tup (pa_cons (pv 4) (pa_cons (pv 5) pa_nil))) pa_nil)))
(pss_one (ps_expr (pe_bm PySem.F.plainAttrs_list PySem.F.slot_list_append PySem.F.type_list_append mt_append (pv 1) (pa_cons (pv 5) pa_nil)))))))
(pss_one (ps_ret (pe_revL (pv 1))))))), ?_⟩
  refine ⟨(by show 0 ≤ sizeLine; decide), fun t ht => ?_⟩
  have s1 := same_new ht (.lst [])
  refine ⟨(by show 0 ≤ sizeLine; decide), fun n hn => ?_⟩
  have s2 := same_new hn (.lst [])
  have tn : t ≠ n := ne_of_none upd_same hn
  have n0 : H n = none := by rw [upd_ne tn.symm] at hn; exact hn
  have ht2 := s2 _ _ (show (upd H t (.lst [])) t = some (.lst []) from upd_same)
  have hn2 : (upd (upd H t (.lst [])) n (.lst [])) n = some (.lst []) := upd_same
  have S2 := s1.trans s2
  generalize upd (upd H t (.lst [])) n (.lst []) = H2 at S2 ht2 hn2 ⊢
  refine ⟨_, rfl, a, row, rfl, S2 _ _ ha, up, r12, fun rp zs bl H3 s3 n3 hz pz e fd => ⟨rp, zs, rfl, SqL.of hz, ?_⟩⟩
  have ns := BB.nst_of e up fd
  have lb : bl.length ≤ 12 := by rw [← e, List.length_map] at r12; exact r12
  have lz := pz.1
  have d0 : Dp H H3 t n rp zs bl (bl.drop (bl.length - 0)) := by
    rw [Nat.sub_zero, List.drop_length]
    exact ⟨S2.trans s3, ht, n0, tn, (ne_of_none ht2 n3).symm, (ne_of_none hn2 n3).symm, hz, pz, s3 _ _ ht2, ⟨[], s3 _ _ hn2, rfl, fun j b e => by cases e⟩⟩
  refine for_items zs.length (fun i H' x => zs.reverse[i]? = some x) (fun i σ H' => ∃ o3 o4 o5, σ = [some (.ref a), some (.ref t), some (.ref n), o3, o4, o5] ∧ Dp H H' t n rp zs bl (bl.drop (bl.length - i))) ⟨_, _, _, rfl, d0⟩ (fun i σ H' hi hp => ?_) (fun i x σ H' H4 hi hp s4 hx => ?_) (fun σ H' hp => ?_)
  · obtain ⟨o3, o4, o5, rfl, d⟩ := hp
    exact items_revL d.hz i H' (Same.refl _)
  · obtain ⟨o3, o4, o5, rfl, d⟩ := hp
    have d4 := d.same s4
    rw [List.getElem?_reverse hi] at hx
    obtain ⟨p, c, rfl, ec, hp⟩ := prs_get d4.pz hx
    have jl : zs.length - 1 - i < bl.length := by omega
    have ed : bl.drop (bl.length - (i + 1)) = c :: bl.drop (bl.length - i) := by
      rw [show bl.length - (i + 1) = zs.length - 1 - i by omega, List.drop_eq_getElem_cons jl, show zs.length - 1 - i + 1 = bl.length - i by omega]
      rw [List.getElem?_eq_getElem jl] at ec
      rw [Option.some.inj ec]
    have nd2 : ∀ k, BB.Nst (bl.drop k) := fun k => by
      induction k with
      | zero => exact ns
      | succ k ih =>
        by_cases z : k < bl.length
        · rw [List.drop_eq_getElem_cons z] at ih
          exact ih.tail
        · rw [List.drop_eq_nil_of_le (by omega)]
          rw [List.drop_eq_nil_of_le (by omega)] at ih
          exact ih
    have nsc := nd2 (bl.length - (i + 1))
    rw [ed] at nsc
    rw [ed]
    have sl12 : (bl.drop (bl.length - i)).length ≤ 12 := by rw [List.length_drop]; omega
    generalize bl.drop (bl.length - i) = sl at d4 nsc sl12 ⊢
    obtain ⟨ys, hys, pys⟩ := d4.hn
    have ly : ys.length = sl.length := by rw [pys.1]; unfold inR; rw [List.length_reverse, List.length_map]
    refine ⟨p, _, rfl, SqT.of hp, rfl, _, _, rfl, _, _, rfl, rfl, ?_⟩
    refine ⟨_, rfl, n, rfl, ⟨_, SqL.of hys⟩, fun D hD => ?_⟩
    refine comp_sel ys.length (by rw [sizeLine_eq]; omega) (fun j => decide (((inR sl).getD j (0, 0)).1 < c.2)) (fun j => .int ((inR sl).getD j (0, 0)).2) (fun σ => ∃ o1 o2, σ = [o1, o2, some (.int c.2)]) _ hD (by exact ⟨_, _, rfl⟩) (items_lst hys) (fun j x σ' H5 hj s5 im hσ R S hR hS => ?_) (fun H5 s5 hD5 => ?_)
    · obtain ⟨o1, o2, rfl⟩ := hσ
      obtain ⟨p5, b5, rfl, eb, hp5⟩ := prs_get pys im
      rw [getD_at eb] at hR hS
      refine ⟨p5, _, rfl, SqT.of (s5 _ _ hp5), rfl, _, _, rfl, _, _, rfl, rfl, ?_⟩
      refine ⟨_, rfl, _, rfl, _, _, rfl, rfl, _, rfl, ?_⟩
      by_cases l : b5.1 < c.2
      · rw [decide_eq_true l]
        exact iteT ⟨_, rfl, hR (decide_eq_true l) _ _ _ ⟨_, _, rfl⟩ (Same.refl _) rfl⟩
      · rw [decide_eq_false l]
        exact iteF (hS (decide_eq_false l) _ _ ⟨_, _, rfl⟩ (Same.refl _))
    have e5 : ((List.range ys.length).filter fun j => decide (((inR sl).getD j (0, 0)).1 < c.2)).map (fun j => V.int ((inR sl).getD j (0, 0)).2) = (nsR c sl).map V.int := by
      rw [pys.1]
      have := BB.sel_list (0, 0) (inR sl) (fun z => decide (z.1 < c.2)) (fun z => V.int z.2)
      rw [this]
      unfold nsR
      rw [List.map_map]
      rfl
    rw [e5] at hD5
    refine ⟨D, nsR c sl, rfl, SqL.of hD5, fun m hm => ?_⟩
    have em := dep_is hm
    refine ⟨_, _, rfl, rfl, ?_⟩
    have d5 := d4.same s5
    have hys5 := s5 _ _ hys
    have pys5 : Prs H5 ys (inR sl) := prs_same pys fun p xs e => s5 _ _ e
    refine ⟨_, rfl, .inl ⟨rfl, _, SqL.of hys5⟩, _, rfl, _, rfl, (by show 2 ≤ sizeLine; decide), fun q1 hq1 => ?_⟩
    obtain ⟨k1, k2, k3⟩ := d5.push (c := c) nsc em hys5 pys5 hq1
    refine ⟨n, _, _, rfl, rfl, k1, by rw [ly, sizeLine_eq]; omega, ?_⟩
    refine ⟨_, rfl, .inl ⟨rfl, _, SqL.of k2⟩, _, rfl, t, _, _, rfl, rfl, k2, by rw [List.length_map, List.length_reverse, sizeLine_eq]; unfold dps; rw [List.length_map]; omega, ?_⟩
    exact ⟨_, _, _, rfl, k3⟩
  · obtain ⟨o3, o4, o5, rfl, d⟩ := hp
    rw [lz, Nat.sub_self, List.drop_zero] at d
    refine ⟨_, rfl, t, _, rfl, SqL.of d.ht, fun r hr0 => ?_⟩
    have s9 := same_new hr0 (.lst ((dps bl).reverse.map V.int).reverse)
    refine q r bl _ (d.sm.trans s9) ?_ (by rw [upd_same, List.map_reverse, List.reverse_reverse]) e fd
    cases e9 : H r with
    | none => rfl
    | some o => rw [d.sm _ _ e9] at hr0; cases hr0
end
end K42
end
section
namespace K42
open PySem PySem.Spec PyProof.Rows L2
set_option maxHeartbeats 4000000
set_option Elab.async false
set_option linter.unusedVariables false
theorem at_mem {xs : List V} {k : Int} (h0 : 0 ≤ k) (h1 : k < (xs.length : Int)) : ∃ u, atI xs k = some u ∧ u ∈ xs ∧ xs[k.toNat]? = some u := by
  have hk : k.toNat < xs.length := by omega
  have ek : ((k.toNat : Nat) : Int) = k := by omega
  have q : atI xs ((k.toNat : Nat) : Int) = some xs[k.toNat] := atI_nat (List.getElem?_eq_getElem hk)
  rw [ek] at q
  exact ⟨xs[k.toNat], q, List.getElem_mem hk, List.getElem?_eq_getElem hk⟩
theorem Keep.refl (a : Addr) (H : Hp) : Keep a H H := fun _ _ _ h => h
theorem Keep.trans {a : Addr} {H H1 H2 : Hp} (k : Keep a H H1) (k' : Keep a H1 H2) : Keep a H H2 := fun c o n h => k' c o n (k c o n h)
theorem Keep.same {a : Addr} {H H1 H2 : Hp} (k : Keep a H H1) (s : Same H1 H2) : Keep a H H2 := fun c o n h => s c o (k c o n h)
theorem keep_upd (a : Addr) (H : Hp) (o : HO) : Keep a H (upd H a o) := fun c u n h => by rw [upd_ne n]; exact h
theorem StAt.same {H H' : Hp} {a : Addr} {x : Int} {b : Bool} (h : StAt H a x b) (s : Same H H') : StAt H' a x b := ⟨s _ _ h.1, h.2⟩
theorem StAt.upd {H : Hp} {a : Addr} {x' : Int} {b : Bool} (d : Dok x' b) : StAt (L2.upd H a (.lst [.int x', .bl b])) a x' b := ⟨upd_same, d⟩
def spRw : Sp := fun vs H Q _ => ∃ (a : Addr) (x : Int) (b : Bool), vs = [.ref a] ∧ StAt H a x b ∧
  ∀ (r : Addr) (row : List Int) (H' : Hp) (x' : Int), Keep a H H' → StAt H' a x' b → H' r = some (.tup (row.map V.int)) → BB.Rw row row.length (-1000000000) 2000000000 → row.length ≤ 12 → Q (.ref r) H'
structure SI (a : Addr) (b : Bool) (H0 H : Hp) : Prop where
  st : ∃ x, StAt H a x b
  kp : Keep a H0 H
theorem SI.same {a : Addr} {b : Bool} {H0 H H' : Hp} (r : SI a b H0 H) (s : Same H H') : SI a b H0 H' := by
  obtain ⟨x, hx⟩ := r.st
  exact ⟨⟨x, hx.same s⟩, r.kp.same s⟩
theorem SI.take {a : Addr} {b : Bool} {H0 H : Hp} {x' : Int} (r : SI a b H0 H) (d : Dok x' b) : SI a b H0 (upd H a (.lst [.int x', .bl b])) := ⟨⟨x', StAt.upd d⟩, r.kp.trans (keep_upd a H _)⟩
theorem SI.new {a : Addr} {b : Bool} {H0 H : Hp} (r : SI a b H0 H) {p : Addr} (hp : H p = none) : p ≠ a := fun e => by
  obtain ⟨x, hx⟩ := r.st
  rw [e, hx.1] at hp; cases hp
section
variable {P : Program} {w : World} {K : PySem.W.Frag} {mg : Str → Option Value} {base : Heap}
set_option maxRecDepth 100000 in
theorem ok_L_row {f : Addr} {fd : FuncData} (F : Fun K "_law_row" "_law_row" s_L_row f fd) (nb : Nb mg) (h_L_take : Has P w K mg base 1 "_law_take" ["_law_state_here", "_law_many"] (spTake K))  :
    FnOk P w K mg base CX0 2 f fd ["_law_state_here"] spRw := by
  have nd := sc_L_row.nd
  refine F.ok (k := 1) sc_L_row (fun vs H Q E h => ?_) (fun cdv A outer s H vs Q E hr h => ?_)
  · obtain ⟨a, x, b, rfl, _⟩ := h
    rfl
  obtain ⟨a, x, b, rfl, hS, q⟩ := h
  refine ⟨_, (pss_cons (ps_set (i := 1) nd rfl (Or.inl rfl) (pe_ix ix_list (pe_lst (pa_cons pe_int (pa_cons (pe_op op_sub (pe_def h_L_take hr (pa_cons (pv 0) (pa_cons pe_int pa_nil))) pe_int) (pa_cons (pe_un un_neg (pe_op op_pow pe_int pe_int)) (pa_cons (pe_op op_sub (pe_op op_pow pe_int pe_int) pe_int) pa_nil))))) (pe_def h_L_take hr (pa_cons (pv 0) (pa_cons pe_int pa_nil))) (fun _ _ => rfl)))
(pss_cons (ps_set (i := 2) nd rfl (Or.inl rfl) (pe_ix ix_list (pe_lst (pa_cons pe_int (pa_cons pe_int (pa_cons pe_int (pa_cons pe_int pa_nil))))) (pe_def h_L_take hr (pa_cons (pv 0) (pa_cons pe_int pa_nil))) (fun _ _ => rfl)))
(pss_cons (ps_set (i := 3) nd rfl (Or.inl rfl) (pe_op op_mul (pe_op op_mul (pe_op op_pow pe_int pe_int) (pe_def h_L_take hr (pa_cons (pv 0) (pa_cons pe_int pa_nil)))) (pe_callTy call_int1 rfl nb.int boot_int (pa_cons (pe_cmpR op_lt (pv 1) (pe_op op_pow pe_int pe_int) (nomark _)) pa_nil))))
(pss_cons (ps_set (i := 4) nd rfl (Or.inl rfl) (pe_tup pa_nil))
(pss_cons (ps_set (i := 5) nd rfl (Or.inl rfl) (pv 1))
(pss_cons (ps_for PassesOwn.never rfl (pi_range1 rfl nb.range (pa_cons (pe_def h_L_take hr (pa_cons (pv 0) (pa_cons pe_int pa_nil))) pa_nil)) (pg_name (i := 6) nd rfl (Or.inl rfl))
(pss_cons (ps_set (i := 4) nd rfl (Or.inl rfl) (pe_op op_catA (pv 4) (pe_tup (pa_cons (pv 5) pa_nil))))
(pss_one (ps_set (i := 5) nd rfl (Or.inl rfl) (pe_op op_add (pe_op op_add (pe_op op_add (pv 5) pe_int) (pe_def h_L_take hr (pa_cons (pv 0) (pa_cons (pv 2) pa_nil)))) (pe_op op_mul (pv 3) (pe_callTy call_int1 rfl nb.int boot_int (pa_cons (pe_cmpR op_eq (pe_def h_L_take hr (pa_cons (pv 0) (pa_cons pe_int pa_nil))) pe_int (nomark _)) pa_nil))))))))
(pss_one (ps_ret (pv 4))))))))), ?_⟩
  have r0 : SI a b H H := ⟨⟨x, hS⟩, Keep.refl a H⟩
  refine ⟨_, rfl, a, x, b, 41, rfl, hS, by decide, by decide, fun v1 x1 v10 v11 d1 => ?_⟩
  have r1 := r0.take d1
  generalize upd H a (.lst [.int x1, .bl b]) = H1 at r1 ⊢
  refine ⟨_, _, rfl, rfl, _, _, rfl, rfl, ⟨by decide, by decide, by decide⟩, _, rfl, _, _, rfl, rfl, ⟨by decide, by decide, by decide⟩, _, _, rfl, rfl, (by show 4 ≤ sizeLine; decide), fun p hp => ?_⟩
  have r2 := r1.same (same_new hp (.lst [.int 0, .int (v1 - 20), .int (-(10 : Int) ^ (9 : Int).toNat), .int ((10 : Int) ^ (9 : Int).toNat - 150)]))
  have pa := r1.new hp
  obtain ⟨x2, st2⟩ := r2.st
  refine ⟨_, rfl, a, x2, b, 4, rfl, st2, by decide, by decide, fun v2 x3 v20 v21 d3 => ?_⟩
  have r3 := r2.take d3
  obtain ⟨u, hu, um, _⟩ := at_mem (xs := [V.int 0, .int (v1 - 20), .int (-(10 : Int) ^ (9 : Int).toNat), .int ((10 : Int) ^ (9 : Int).toNat - 150)]) v20 (by simpa using v21)
  have hf1 : ∃ fi : Int, u = .int fi ∧ -1000000000 ≤ fi ∧ fi ≤ 1000000000 := by
    simp only [List.mem_cons, List.not_mem_nil, or_false] at um
    rcases um with rfl | rfl | rfl | rfl
    · exact ⟨_, rfl, by decide, by decide⟩
    · exact ⟨_, rfl, by omega, by omega⟩
    · exact ⟨_, rfl, by decide, by decide⟩
    · exact ⟨_, rfl, by decide, by decide⟩
  obtain ⟨fi, rfl, f0, f1⟩ := hf1
  refine ⟨p, _, _, _, rfl, rfl, SqL.of (by rw [upd_ne pa]; exact upd_same), hu, ?_⟩
  generalize upd (upd H1 p (.lst [.int 0, .int (v1 - 20), .int (-(10 : Int) ^ (9 : Int).toNat), .int ((10 : Int) ^ (9 : Int).toNat - 150)])) a (.lst [.int x3, .bl b]) = H3 at r3 ⊢
  refine ⟨(by show 4 ≤ sizeLine; decide), fun p2 hp2 => ?_⟩
  have r4 := r3.same (same_new hp2 (.lst [.int 1, .int 2, .int 4, .int 12]))
  have pa2 := r3.new hp2
  obtain ⟨x4, st4⟩ := r4.st
  refine ⟨_, rfl, a, x4, b, 4, rfl, st4, by decide, by decide, fun v3 x5 v30 v31 d5 => ?_⟩
  have r5 := r4.take d5
  obtain ⟨u2, hu2, um2, _⟩ := at_mem (xs := [V.int 1, .int 2, .int 4, .int 12]) v30 (by simpa using v31)
  have hw : ∃ wi : Int, u2 = .int wi ∧ 1 ≤ wi ∧ wi ≤ 12 := by
    simp only [List.mem_cons, List.not_mem_nil, or_false] at um2
    rcases um2 with rfl | rfl | rfl | rfl <;> exact ⟨_, rfl, by decide, by decide⟩
  obtain ⟨wi, rfl, w0, w1⟩ := hw
  refine ⟨p2, _, _, _, rfl, rfl, SqL.of (by rw [upd_ne pa2]; exact upd_same), hu2, ?_⟩
  generalize upd (upd H3 p2 (.lst [.int 1, .int 2, .int 4, .int 12])) a (.lst [.int x5, .bl b]) = H5 at r5 ⊢
  obtain ⟨x6, st6⟩ := r5.st
  refine ⟨_, _, rfl, rfl, ⟨by decide, by decide, by decide⟩, _, rfl, a, x6, b, 2, rfl, st6, by decide, by decide, fun v4 x7 v40 v41 d7 => ?_⟩
  have r7 := r5.take d7
  generalize upd H5 a (.lst [.int x7, .bl b]) = H7 at r7 ⊢
  refine ⟨_, _, rfl, rfl, .inl ⟨by decide, by decide⟩, _, rfl, _, _, rfl, rfl, ⟨by decide, by decide, by decide⟩, _, _, rfl, rfl, .inr ⟨_, rfl, _, _, rfl, rfl, .inr (by split <;> decide), ?_⟩⟩
  have hfar : ∃ fr : Int, (10 : Int) ^ (7 : Int).toNat * v4 * (if decide (fi < (10 : Int) ^ (8 : Int).toNat) = true then 1 else 0) = fr ∧ 0 ≤ fr ∧ fr ≤ 10000000 := by
    refine ⟨_, rfl, ?_⟩
    have e7 : (10 : Int) ^ (7 : Int).toNat = 10000000 := by decide
    rw [e7]
    have hv : v4 = 0 ∨ v4 = 1 := by omega
    rcases hv with rfl | rfl
    · split <;> decide
    · split <;> decide
  obtain ⟨fr, efr, fr0, fr1⟩ := hfar
  refine ⟨(by show 0 ≤ sizeLine; decide), fun p3 hp3 => ?_⟩
  have r8 := r7.same (same_new hp3 (.tup []))
  have h8 : (upd H7 p3 (.tup [])) p3 = some (.tup (([] : List Int).map V.int)) := upd_same
  generalize upd H7 p3 (.tup []) = H8 at r8 h8 ⊢
  obtain ⟨x8, st8⟩ := r8.st
  refine ⟨_, rfl, _, rfl, a, x8, b, 13, rfl, st8, by decide, by decide, fun v5 x9 v50 v51 d9 => ?_⟩
  have r9 := r8.take d9
  have p3a : p3 ≠ a := ne_of h8 st8.1 (by intro z; cases z)
  have h9 : (upd H8 a (.lst [.int x9, .bl b])) p3 = some (.tup (([] : List Int).map V.int)) := by rw [upd_ne p3a]; exact h8
  generalize upd H8 a (.lst [.int x9, .bl b]) = H9 at r9 h9 ⊢
  refine ⟨v5, rfl, by omega, by omega, ?_⟩
  refine for_range (fun i σ H' => ∃ (fo : Addr) (row : List Int) (he fr' : Int) (o6 : Option V), σ = [some (.ref a), some (.int fi), some (.int wi), some (.int fr'), some (.ref fo), some (.int he), o6] ∧ fr' = fr ∧ SI a b H H' ∧ H' fo = some (.tup (row.map V.int)) ∧ row.length = i ∧ row.Pairwise (· < ·) ∧ (∀ p ∈ row, -1000000000 ≤ p ∧ p < he) ∧ -1000000000 ≤ he ∧ he ≤ 1000000000 + (i : Int) * 10000013)
    ⟨p3, [], fi, _, _, rfl, efr, r9, h9, rfl, .nil, (fun p hp => by cases hp), f0, by omega⟩ (fun i σ H' hi hp => ?_) (fun σ H' hp => ?_)
  · obtain ⟨fo, row, he, fr', o6, rfl, efr', si, hfo, hl, up, bd, h0, h1⟩ := hp
    have iv : (i : Int) < v5 := by omega
    refine ⟨_, rfl, _, rfl, (by show 1 ≤ sizeLine; decide), fun p4 hp4 => ?_⟩
    have s4 := same_new hp4 (.tup [.int he])
    refine ⟨fo, p4, _, _, rfl, rfl, s4 _ _ hfo, upd_same, by rw [List.length_map, List.length_singleton, sizeLine_eq]; omega, fun p5 H5' s5 e5 => ?_⟩
    have si5 := si.same (s4.trans s5)
    obtain ⟨y5, t5⟩ := si5.st
    have p5a : p5 ≠ a := ne_of e5 t5.1 (by intro z; cases z)
    refine ⟨_, rfl, _, _, rfl, rfl, _, rfl, _, rfl, a, y5, b, wi, rfl, t5, by omega, by omega, fun w2 y6 w20 w21 d6 => ?_⟩
    have si6 := si5.take d6
    have e6 : (upd H5' a (.lst [.int y6, .bl b])) p5 = some (.tup (row.map V.int ++ [.int he])) := by rw [upd_ne p5a]; exact e5
    generalize upd H5' a (.lst [.int y6, .bl b]) = H6' at si6 e6 ⊢
    obtain ⟨y6', t6⟩ := si6.st
    refine ⟨_, _, rfl, rfl, _, rfl, _, rfl, a, y6', b, 4, rfl, t6, by decide, by decide, fun w3 y7 w30 w31 d7' => ?_⟩
    have si7 := si6.take d7'
    have e7 : (upd H6' a (.lst [.int y7, .bl b])) p5 = some (.tup (row.map V.int ++ [.int he])) := by rw [upd_ne p5a]; exact e6
    generalize upd H6' a (.lst [.int y7, .bl b]) = H7' at si7 e7 ⊢
    refine ⟨rfl, .inr ⟨_, rfl, _, _, rfl, rfl, .inr (by split <;> decide), _, _, rfl, rfl, ?_⟩⟩
    have hm : ∃ m : Int, fr' * (if decide (V.int w3 = V.int 0) = true then 1 else 0) = m ∧ 0 ≤ m ∧ m ≤ 10000000 := by
      refine ⟨_, rfl, ?_⟩
      split <;> omega
    obtain ⟨m, em, m0, m1⟩ := hm
    refine ⟨p5, row ++ [he], _, fr', _, rfl, efr', si7, by rw [e7, List.map_append]; rfl, by rw [List.length_append, List.length_singleton, hl], ?_, fun p hp => ?_, ?_, ?_⟩
    · refine List.pairwise_append.mpr ⟨up, List.pairwise_singleton _ _, fun x hx y hy => ?_⟩
      have : y = he := by simpa using hy
      rw [this]; exact (bd x hx).2
    · show -1000000000 ≤ p ∧ p < he + 1 + w2 + fr' * (if decide (V.int w3 = V.int 0) = true then 1 else 0)
      rw [em]
      rcases List.mem_append.mp hp with z | z
      · have := bd p z; omega
      · have : p = he := by simpa using z
        omega
    · show -1000000000 ≤ he + 1 + w2 + fr' * (if decide (V.int w3 = V.int 0) = true then 1 else 0)
      rw [em]; omega
    · show he + 1 + w2 + fr' * (if decide (V.int w3 = V.int 0) = true then 1 else 0) ≤ 1000000000 + ((i + 1 : Nat) : Int) * 10000013
      rw [em, show ((i + 1 : Nat) : Int) = (i : Int) + 1 by omega, Int.add_mul]
      omega
  · obtain ⟨fo, row, he, fr', o6, rfl, efr', si, hfo, hl, up, bd, h0, h1⟩ := hp
    obtain ⟨y, ty⟩ := si.st
    refine ⟨_, rfl, q fo row H' y si.kp ty hfo ⟨up, rfl, fun p hp => ?_⟩ (by omega)⟩
    have := bd p hp
    have e5 : ((v5.toNat : Nat) : Int) = v5 := by omega
    rw [e5] at h1
    omega
end
end K42
end
section
namespace K42
open PySem PySem.Spec PyProof.Rows L2
set_option maxHeartbeats 4000000
set_option Elab.async false
set_option linter.unusedVariables false
def spSame : Nat → Sp
  | 0 => fun _ _ _ _ => False
  | n + 1 => fun vs H Q _ => ∃ x y : V, vs = [x, y] ∧ Sm H n x y ∧ ∀ H', Same H H' → Q (.bl true) H'
theorem same_flat {H : Hp} {x y : V} (h : x = y ∧ ((∃ i, x = .int i) ∨ (∃ b, x = .bl b) ∨ (∃ z, x = .str z) ∨ x = .non)) : ∃ T, Kn H x T ∧ Kn H y T ∧ seqT T = false ∧ scal x y = true ∧ x = y := by
  obtain ⟨rfl, h⟩ := h
  rcases h with ⟨i, rfl⟩ | ⟨b, rfl⟩ | ⟨z, rfl⟩ | rfl
  · exact ⟨_, .int i, .int i, rfl, rfl, rfl⟩
  · exact ⟨_, .bl b, .bl b, rfl, rfl, rfl⟩
  · exact ⟨_, .str z, .str z, rfl, rfl, rfl⟩
  · exact ⟨_, .non, .non, rfl, rfl, rfl⟩
theorem Sm.cases {H : Hp} {n : Nat} {x y : V} (h : Sm H n x y) : (∃ T, Kn H x T ∧ Kn H y T ∧ seqT T = false ∧ scal x y = true ∧ x = y) ∨
    ∃ (m : Nat) (a b : Addr) (xs ys : List V), n = m + 1 ∧ x = .ref a ∧ y = .ref b ∧ ((H a = some (.tup xs) ∧ H b = some (.tup ys)) ∨ (H a = some (.lst xs) ∧ H b = some (.lst ys))) ∧ xs.length = ys.length ∧ xs.length ≤ 1000 ∧
      ∀ (i : Nat) (u v : V), xs[i]? = some u → ys[i]? = some v → Sm H m u v := by
  cases n with
  | zero => exact .inl (same_flat h)
  | succ n =>
    rcases h with h | ⟨a, b, xs, ys, h⟩
    · exact .inl (same_flat h)
    · exact .inr ⟨n, a, b, xs, ys, rfl, h⟩
theorem is_same {α : Type} [DecidableEq α] {x y : α} (e : x = y) : V.bl (decide (x = y)) = .bl true := by rw [decide_eq_true e]
theorem no_diff {α : Type} [DecidableEq α] {x y : α} (e : x = y) : V.bl (!decide (x = y)) = .bl false := by rw [decide_eq_true e]; rfl
theorem none_left {P : Program} {w : World} {K : PySem.W.Frag} {mg : Str → Option Value} {base : Heap} {f : Addr} {fd : FuncData} : FnOk P w K mg base CX0 0 f fd ["_law_found", "_law_due"] (spSame 0) :=
  ⟨fun vs H Q E h => h.elim, fun A outer s H args us vs Q E _ _ _ _ h => h.elim⟩
section
variable {P : Program} {w : World} {K : PySem.W.Frag} {mg : Str → Option Value} {base : Heap}
set_option maxRecDepth 100000 in
theorem ok_L_same {f : Addr} {fd : FuncData} (F : Fun K "_law_same" "_law_same" s_L_same f fd) {n : Nat} (nb : Nb2 mg) (h_L_same : Has P w K mg base n "_law_same" ["_law_found", "_law_due"] (spSame n))  :
    FnOk P w K mg base CX0 (n + 1) f fd ["_law_found", "_law_due"] (spSame (n + 1)) := by
  have nd := sc_L_same.nd
  refine F.ok (k := n) sc_L_same (fun vs H Q E h => ?_) (fun cdv A outer s H vs Q E hr h => ?_)
  · obtain ⟨x, y, rfl, _⟩ := h
    rfl
  obtain ⟨x, y, rfl, sm, q⟩ := h
  refine ⟨_, (pss_cons (ps_if (pt_truth (pe_callB call_isiT rfl nb.isi boot_isinstance (pa_cons (pv 1) (pa_cons (pe_tup (pa_cons (pe_ty nb.tuple boot_tuple) (pa_cons (pe_ty nb.list boot_list) pa_nil))) pa_nil))) (fun _ => rfl))
(pss_cons (ps_if (PW.pt (pw_or (pt_cmpR op_ne (pe_callB call_isi rfl nb.isi boot_isinstance (pa_cons (pv 0) (pa_cons (pe_ty nb.tuple boot_tuple) pa_nil))) (pe_callB call_isi rfl nb.isi boot_isinstance (pa_cons (pv 1) (pa_cons (pe_ty nb.tuple boot_tuple) pa_nil))) (nomark _)) (pw_or1 (pt_cmpR op_ne (pe_callB call_isi rfl nb.isi boot_isinstance (pa_cons (pv 0) (pa_cons (pe_ty nb.list boot_list) pa_nil))) (pe_callB call_isi rfl nb.isi boot_isinstance (pa_cons (pv 1) (pa_cons (pe_ty nb.list boot_list) pa_nil))) (nomark _)))))
(pss_one (ps_ret pe_bl))
pss_nil)
(pss_one (ps_ret (pe_and (pe_cmpR op_eq (pe_callB call_len_seq rfl nb.len PySem.boot_len (pa_cons (pv 0) pa_nil)) (pe_callB call_len_seq rfl nb.len PySem.boot_len (pa_cons (pv 1) pa_nil)) (nomark _)) (pe_one (pe_callB (call_allB rfl) rfl nb.all boot_all (pa_cons (pe_comp2 (sc := defScope s_L_same) (N0 := ["_law_found", "_law_due"]) (N := []) (js := []) rfl rfl rfl (by exact ⟨rfl, by decide +kernel, by decide +kernel, by decide +kernel, rfl, rfl, by decide, by decide +kernel, by decide +kernel⟩) rfl rfl
(pi_zipE rfl nb.zip (pa_cons (pv 0) (pa_cons (pv 1) pa_nil)))
(fun _ _ _ _ _ => by exact pts_nil)
(fun _ _ _ _ _ => by exact (pe_def (hk := Nat.le_refl _) h_L_same hr (pa_cons (pv 0) (pa_cons (pv 1) pa_nil))))) pa_nil)))))))
pss_nil)
(pss_one (ps_ret (pe_and (pe_cmpR op_eq (pv 0) (pv 1) (nomark _)) (pe_one (pe_cmpR op_eq (pe_callB call_isi rfl nb.isi boot_isinstance (pa_cons (pv 0) (pa_cons (pe_ty nb.bool boot_bool) pa_nil))) (pe_callB call_isi rfl nb.isi boot_isinstance (pa_cons (pv 1) (pa_cons (pe_ty nb.bool boot_bool) pa_nil))) (nomark _))))))), ?_⟩
  refine ⟨_, rfl, (by show 2 ≤ sizeLine; decide), fun p hp => ?_⟩
  have s1 := same_new hp (.tup [.ty "tuple", .ty "list"])
  have sm1 := sm.same s1
  rcases Sm.cases sm1 with ⟨T, kx, ky, sq, sc, exy⟩ | ⟨m, a, b, xs, ys, rfl, rfl, rfl, ab, hl, hz, hs⟩
  · refine ⟨_, _, _, rfl, ky, .inr upd_same, _, rfl, ?_⟩
    rw [sq]
    refine iteF ?_
    refine ⟨_, rfl, _, rfl, sc, true, is_same exy, iteT ?_⟩
    refine ⟨_, rfl, _, _, _, rfl, kx, .inr (.inl rfl), _, rfl, _, _, _, rfl, ky, .inr (.inl rfl), rfl, ?_⟩
    rw [is_same rfl]
    exact q _ s1
  · have hp1 : (upd H p (.tup [.ty "tuple", .ty "list"])) p = some (.tup [.ty "tuple", .ty "list"]) := upd_same
    generalize upd H p (.tup [.ty "tuple", .ty "list"]) = H1 at s1 sm1 ab hs hp1 ⊢
    have hh : ∃ T, Kn H1 (.ref a) T ∧ Kn H1 (.ref b) T ∧ seqT T = true ∧ (SqL K H1 a xs ∨ SqT K H1 a xs) ∧ (SqL K H1 b ys ∨ SqT K H1 b ys) ∧ ∃ t, SqK t K H1 a xs ∧ SqK t K H1 b ys ∧
        ∀ i H2, Same H1 H2 → (i < min xs.length ys.length → (Itz t K a b).go i H2 ∧ ∀ v H3, (Itz t K a b).yld i H2 v H3 → Same H2 H3 ∧ ∃ p x y, v = .ref p ∧ H3 p = some (.tup [x, y]) ∧ xs[i]? = some x ∧ ys[i]? = some y) ∧ (min xs.length ys.length ≤ i → (Itz t K a b).stop i H2) := by
      rcases ab with ⟨h1, h2⟩ | ⟨h1, h2⟩
      · exact ⟨_, .tup h1, .tup h2, rfl, .inr (SqT.of h1), .inr (SqT.of h2), true, SqT.of h1, SqT.of h2, items_zip h1 h2⟩
      · exact ⟨_, .lst h1, .lst h2, rfl, .inl (SqL.of h1), .inl (SqL.of h2), false, SqL.of h1, SqL.of h2, items_zipL h1 h2⟩
    obtain ⟨T, kx, ky, sq, sx, sy, t, q1, q2, its⟩ := hh
    refine ⟨_, _, _, rfl, ky, .inr hp1, _, rfl, ?_⟩
    rw [sq]
    refine iteT ?_
    refine ⟨_, rfl, _, _, _, rfl, kx, .inr (.inr (.inl rfl)), _, rfl, _, _, _, rfl, ky, .inr (.inr (.inl rfl)), rfl, false, no_diff rfl, iteF ?_⟩
    refine ⟨_, rfl, _, _, _, rfl, kx, .inr (.inr (.inr rfl)), _, rfl, _, _, _, rfl, ky, .inr (.inr (.inr rfl)), rfl, false, no_diff rfl, iteF ?_⟩
    refine ⟨_, rfl, a, xs, rfl, sx, _, rfl, b, ys, rfl, sy, rfl, true, is_same (by rw [hl]), iteT ?_⟩
    refine ⟨_, rfl, _, rfl, t, a, b, xs, ys, rfl, q1, q2, fun D hD => ?_⟩
    refine comp_go (min xs.length ys.length) (by rw [sizeLine_eq]; omega) (fun _ => .bl true) (fun σ => ∃ o1 o2, σ = [o1, o2]) _ hD ⟨_, _, rfl⟩ its (fun i z σ' H2 hi s2 im' hσ R hR => ?_) (fun H' s' hD' => ?_)
    · obtain ⟨o1, o2, rfl⟩ := hσ
      obtain ⟨r, u, v, rfl, hr', hu, hv⟩ := im'
      refine ⟨r, _, rfl, SqT.of hr', rfl, _, _, rfl, _, _, rfl, rfl, ?_⟩
      exact ⟨_, rfl, _, rfl, u, v, rfl, (hs i u v hu hv).same s2, fun H3 s3 => hR _ _ _ ⟨_, _, rfl⟩ s3 rfl⟩
    · have e : (List.range (min xs.length ys.length)).map (fun _ => V.bl true) = (List.replicate (min xs.length ys.length) true).map V.bl := by
        rw [List.map_const', List.length_range, List.map_replicate]
      rw [e] at hD'
      refine ⟨D, _, rfl, SqL.of hD', ?_⟩
      have e2 : (List.replicate (min xs.length ys.length) true).all id = true := by rw [List.all_eq_true]; intro x hx; rw [List.eq_of_mem_replicate hx]; rfl
      rw [e2]
      exact q _ (s1.trans s')
end
end K42
end
section
namespace K42
open PySem PySem.Spec PyProof.Rows L2
set_option maxHeartbeats 4000000
set_option maxRecDepth 100000
set_option Elab.async false
set_option linter.unusedVariables false
theorem same_keep {H H' : Hp} {r : Addr} {o : HO} (hr : H r = none) (k : Keep r (upd H r o) H') : Same H H' := fun c u h => k c u (ne_of_none h hr) (same_new hr o c u h)
def spLaw (K : PySem.W.Frag) : Sp := fun vs H Q _ => ∃ (a : Addr) (ns : List Int), vs = [.ref a] ∧ SqL K H a (ns.map V.int) ∧ ns.length ≤ 63 ∧ ∀ H', Q (.bl true) H'
theorem Keep.of {a : Addr} {H H' : Hp} (s : Same H H') : Keep a H H' := fun c o _ h => s c o h
theorem sm_ints {H : Hp} {a b : Addr} {ns : List Int} (hl : ns.length ≤ 1000) (h : (H a = some (.tup (ns.map V.int)) ∧ H b = some (.tup (ns.map V.int))) ∨ (H a = some (.lst (ns.map V.int)) ∧ H b = some (.lst (ns.map V.int)))) : Sm H 1 (.ref a) (.ref b) := by
  refine .inr ⟨a, b, _, _, rfl, rfl, h, rfl, by rw [List.length_map]; exact hl, fun i u v hu hv => ?_⟩
  rw [hu] at hv
  have e : u = v := by injection hv
  rw [List.getElem?_map] at hu
  cases q : ns[i]? with
  | none => rw [q] at hu; cases hu
  | some n =>
    rw [q] at hu
    exact ⟨e, .inl ⟨n, by injection hu with z; exact z.symm⟩⟩
def exL : List (Int × Int) := [(0, 7), (1, 4), (2, 3), (5, 6)]
theorem ex_fd : BB.FD [0, 1, 2, 5] exL := by
  intro q hq
  simp only [exL, List.mem_cons, List.not_mem_nil, or_false] at hq
  rcases hq with rfl | rfl | rfl | rfl <;> exact ⟨by decide, by decide, by decide⟩
theorem fd_len {row : List Int} {bl : List (Int × Int)} (e : bl.map (·.1) = row) : bl.length = row.length := by rw [← e, List.length_map]
theorem dps_len (bl : List (Int × Int)) : (dps bl).length = bl.length := by unfold dps; rw [List.length_map]
section
variable {P : Program} {w : World} {K : PySem.W.Frag} {mg : Str → Option Value} {base : Heap}
set_option maxRecDepth 100000 in
theorem ok_law {f : Addr} {fd : FuncData} (F : Fun K "law" "law" s_law f fd) (nb : Nb3 mg) (h_L_state : Has P w K mg base 2 "_law_state" ["_law_script", "_law_k"] (spState K)) (h_L_row : Has P w K mg base 2 "_law_row" ["_law_state_here"] spRw) (h_L_same : Has P w K mg base 2 "_law_same" ["_law_found", "_law_due"] (spSame 2)) (h_depths : Has P w K mg base 2 "depths" ["row"] spDp) (h_L_pairs : Has P w K mg base 2 "_law_pairs" ["_law_row_here"] spLp) (h_L_times : Has P w K mg base 1 "_law_times" ["_law_some"] spTm)  :
    FnOk P w K mg base CX0 4 f fd ["_law_script"] (spLaw K) := by
  have nd := sc_law.nd
  refine F.ok (k := 3) sc_law (fun vs H Q E h => ?_) (fun cdv A outer s H vs Q E hr h => ?_)
  · obtain ⟨a, ns, rfl, _⟩ := h
    rfl
  obtain ⟨a, ns, rfl, hS0, h63, q⟩ := h
  refine ⟨_, (pss_cons (ps_if (PW.pt (pw_or (pt_cmpR (op_neNil hr.units0) (pe_def h_depths hr (pa_cons (pe_tup pa_nil) pa_nil)) (pe_lst pa_nil) (nomark _)) (pw_or1 (pt_cmpR (op_neL hr.units0) (pe_def h_depths hr (pa_cons (pe_tup (pa_cons pe_int (pa_cons pe_int (pa_cons pe_int (pa_cons pe_int pa_nil))))) pa_nil)) (pe_lst (pa_cons pe_int (pa_cons pe_int (pa_cons pe_int (pa_cons pe_int pa_nil))))) (nomark _)))))
(pss_one (ps_ret pe_bl))
pss_nil)
(pss_cons (ps_for PassesOwn.never rfl (pi_range1 rfl nb.range (pa_cons (pe_callB (call_max2 rfl) rfl nb.max boot_max (pa_cons pe_int (pa_cons (pe_callB (call_min2 rfl) rfl nb.min boot_min (pa_cons (pe_callB call_len_seq rfl nb.len PySem.boot_len (pa_cons (pv 0) pa_nil)) (pa_cons pe_int pa_nil))) pa_nil))) pa_nil)) (pg_name (i := 1) nd rfl (Or.inl rfl))
(pss_cons (ps_set (i := 2) nd rfl (Or.inl rfl) (pe_def h_L_row hr (pa_cons (pe_def h_L_state hr (pa_cons (pv 0) (pa_cons (pv 1) pa_nil))) pa_nil)))
(pss_cons (ps_set (i := 3) nd rfl (Or.inl rfl) (pe_def h_L_times hr (pa_cons (pe_def h_L_pairs hr (pa_cons (pv 2) pa_nil)) pa_nil)))
(pss_one (ps_for PassesOwn.never rfl (pi_range1 rfl nb.range (pa_cons pe_int pa_nil)) (pg_name (i := 4) nd rfl (Or.inl rfl))
(pss_cons (ps_set (i := 5) nd rfl (Or.inl rfl) (pe_def h_depths hr (pa_cons (pv 2) pa_nil)))
(pss_cons (ps_if (pt_not (pt_truth (pe_def h_L_same hr (pa_cons (pv 5) (pa_cons (pv 3) pa_nil))) (fun _ => rfl)))
(pss_one (ps_ret pe_bl))
pss_nil)
(pss_one (ps_expr (pe_bm PySem.F.plainAttrs_list PySem.F.slot_list_append PySem.F.type_list_append mt_append (pv 5) (pa_cons pe_int pa_nil)))))))))))
(pss_one (ps_ret pe_bl)))), ?_⟩
  refine ⟨(by show 0 ≤ sizeLine; decide), fun p1 hp1 => ⟨p1, [], rfl, upd_same, .nil, by decide, fun r1 bl1 H1 s1 n1 h1 e1 _ => ?_⟩⟩
  have z1 : bl1 = [] := List.length_eq_zero_iff.mp (by rw [fd_len e1]; rfl)
  subst z1
  refine ⟨(by show 0 ≤ sizeLine; decide), fun p2 hp2 => ⟨r1, p2, [], rfl, rfl, SqL.of (same_new hp2 _ _ _ h1), SqL.of upd_same, false, rfl, iteF ?_⟩⟩
  have g1 := ((same_new hp1 (.tup [])).trans s1).trans (same_new hp2 (.lst []))
  generalize upd H1 p2 (.lst []) = G1 at g1 ⊢
  refine ⟨(by show 4 ≤ sizeLine; decide), fun p3 hp3 => ⟨p3, [0, 1, 2, 5], rfl, upd_same, by decide, by decide, fun r3 bl3 H3 s3 n3 h3 e3 fd3 => ?_⟩⟩
  have b3 : bl3 = exL := BB.fd_same e3 fd3 ex_fd
  subst b3
  rw [show dps exL = [3, 2, 1, 1] by decide] at h3
  refine ⟨(by show 4 ≤ sizeLine; decide), fun p4 hp4 => ⟨r3, p4, [3, 2, 1, 1], [3, 2, 1, 1], rfl, rfl, SqL.of (same_new hp4 _ _ _ h3), SqL.of upd_same, rfl, false, no_diff rfl, iteF ?_⟩⟩
  have g2 := g1.trans (((same_new hp3 (.tup [.int 0, .int 1, .int 2, .int 5])).trans s3).trans (same_new hp4 (.lst [.int 3, .int 2, .int 1, .int 1])))
  generalize upd H3 p4 (.lst [.int 3, .int 2, .int 1, .int 1]) = G at g2 ⊢
  have hS := g2.seq hS0
  refine ⟨_, rfl, a, _, rfl, .inl hS, _, _, rfl, _, _, rfl, _, rfl, ?_, ?_, ?_⟩
  · split <;> split <;> omega
  · split <;> split <;> omega
  refine for_range (fun i σ H' => Same G H' ∧ ∃ o1 o2 o3 o4 o5, σ = [some (.ref a), o1, o2, o3, o4, o5]) ⟨Same.refl _, _, _, _, _, _, rfl⟩ (fun i σ H0 hi hp => ?_) (fun σ H0 hp => q _)
  obtain ⟨sm, o1, o2, o3, o4, o5, rfl⟩ := hp
  refine ⟨_, rfl, _, rfl, a, ns, _, rfl, sm.seq hS, by omega, fun r x b hr0 d => ?_⟩
  have st1 : StAt (upd H0 r (.lst [.int x, .bl b])) r x b := StAt.upd d
  generalize hG : upd H0 r (.lst [.int x, .bl b]) = G3 at st1 ⊢
  have fin : ∀ H', Keep r G3 H' → Same G H' := fun H' k => sm.trans (same_keep hr0 (by rw [hG]; exact k))
  refine ⟨r, x, b, rfl, st1, fun rr row H2 x2 kp2 st2 hrow rw r12 => ?_⟩
  refine ⟨_, rfl, rr, row, rfl, hrow, r12, fun rd zd bd H4 s4 h4 pr4 e4 fd4 => ?_⟩
  have lb := fd_len e4
  refine ⟨rd, zd, bd, rfl, h4, pr4, BB.nst_of e4 rw.up fd4, by omega, fun rm H5 s5 h5 => ?_⟩
  have S5 := s4.trans s5
  refine ⟨2, rfl, by decide, by decide, ?_⟩
  refine for_range (fun j σ H' => Same H5 H' ∧ ∃ o4 o5, σ = [some (.ref a), some (.int (0 + (i : Int))), some (.ref rr), some (.ref rm), o4, o5]) ⟨Same.refl _, _, _, rfl⟩ (fun j σ H7 hj hp => ?_) (fun σ H7 hp => ?_)
  · obtain ⟨s7, o4, o5, rfl⟩ := hp
    refine ⟨_, rfl, rr, row, rfl, s7 _ _ (S5 _ _ hrow), rw.up, r12, fun rf bf H8 s8 n8 h8 e8 fd8 => ?_⟩
    have eb : bf = bd := BB.fd_same (e8.trans e4.symm) fd8 fd4
    subst eb
    have hdue8 := s8 _ _ (s7 _ _ h5)
    refine ⟨_, rfl, _, rfl, _, _, rfl, sm_ints (by rw [dps_len]; omega) (.inr ⟨h8, hdue8⟩), fun H9 s9 => ⟨_, rfl, iteF ?_⟩⟩
    have h9 := s9 _ _ h8
    refine ⟨_, rfl, .inl ⟨rfl, _, SqL.of h9⟩, rf, _, _, rfl, rfl, h9, by rw [List.length_map, dps_len, sizeLine_eq]; omega, ?_⟩
    refine ⟨fun c o hc => ?_, _, _, rfl⟩
    rw [upd_ne (ne_of_none (s7 _ _ hc) n8)]
    exact s9 _ _ (s8 _ _ (s7 _ _ hc))
  · obtain ⟨s7, o4, o5, rfl⟩ := hp
    exact ⟨fin _ (kp2.trans (Keep.of (S5.trans s7))), _, _, _, _, _, rfl⟩
end
end K42
end
namespace K42
open PySem PySem.Spec PyProof.Rows L2
set_option maxHeartbeats 4000000
set_option Elab.async false
theorem all_mk {l : PySem.W.OpenLaw} {w : World} {K : PySem.W.Frag} {h : Heap} {mg : Str → Option Value} {fa f1 f2 f3 f4 f5 f6 f7 f8 f9 f10 f11 : Addr} (X : K.In h) (G : h.Ns mainGlobals mg) (hfa : mg "law" = some (.ref fa))
    {od1 an1 od2 an2 od3 an3 od4 an4 od5 an5 od6 an6 od7 an7 od8 an8 od9 an9 od10 an10 od11 an11 : Option Addr} {sl1 sl2 sl3 sl4 sl5 sl6 sl7 sl8 sl9 sl10 sl11 : Array (Option Value)} {oc1 kV1 dc1 pm1 cd1 ct1 oc2 kV2 dc2 pm2 cd2 ct2 oc3 kV3 dc3 pm3 cd3 ct3 oc4 kV4 dc4 pm4 cd4 ct4 oc5 kV5 dc5 pm5 cd5 ct5 oc6 kV6 dc6 pm6 cd6 ct6 oc7 kV7 dc7 pm7 cd7 ct7 oc8 kV8 dc8 pm8 cd8 ct8 oc9 kV9 dc9 pm9 cd9 ct9 oc10 kV10 dc10 pm10 cd10 ct10 oc11 kV11 dc11 pm11 cd11 ct11 : Value}
    (a1 : PySem.W.nsIn K mainGlobals "pairs" = some (some (.ref f1))) (l1 : K.lookup f1 = some ⟨oc1, od1, .func (PySem.W.fnOf "pairs" "pairs" (defArgs s_pairs) (defBody s_pairs) (defScope s_pairs) .none kV1 dc1 pm1 an1 cd1 ct1), sl1⟩) (c1 : PySem.W.codeIn K cd1 "pairs" = true) (k1 : PySem.W.keepIn K (.ref f1) = true)
    (a2 : PySem.W.nsIn K mainGlobals "depths" = some (some (.ref f2))) (l2 : K.lookup f2 = some ⟨oc2, od2, .func (PySem.W.fnOf "depths" "depths" (defArgs s_depths) (defBody s_depths) (defScope s_depths) .none kV2 dc2 pm2 an2 cd2 ct2), sl2⟩) (c2 : PySem.W.codeIn K cd2 "depths" = true) (k2 : PySem.W.keepIn K (.ref f2) = true)
    (a3 : PySem.W.nsIn K mainGlobals "_law_cell_at" = some (some (.ref f3))) (l3 : K.lookup f3 = some ⟨oc3, od3, .func (PySem.W.fnOf "_law_cell_at" "_law_cell_at" (defArgs s_L_cell_at) (defBody s_L_cell_at) (defScope s_L_cell_at) .none kV3 dc3 pm3 an3 cd3 ct3), sl3⟩) (c3 : PySem.W.codeIn K cd3 "_law_cell_at" = true) (k3 : PySem.W.keepIn K (.ref f3) = true)
    (a4 : PySem.W.nsIn K mainGlobals "_law_state" = some (some (.ref f4))) (l4 : K.lookup f4 = some ⟨oc4, od4, .func (PySem.W.fnOf "_law_state" "_law_state" (defArgs s_L_state) (defBody s_L_state) (defScope s_L_state) .none kV4 dc4 pm4 an4 cd4 ct4), sl4⟩) (c4 : PySem.W.codeIn K cd4 "_law_state" = true) (k4 : PySem.W.keepIn K (.ref f4) = true)
    (a5 : PySem.W.nsIn K mainGlobals "_law_take" = some (some (.ref f5))) (l5 : K.lookup f5 = some ⟨oc5, od5, .func (PySem.W.fnOf "_law_take" "_law_take" (defArgs s_L_take) (defBody s_L_take) (defScope s_L_take) .none kV5 dc5 pm5 an5 cd5 ct5), sl5⟩) (c5 : PySem.W.codeIn K cd5 "_law_take" = true) (k5 : PySem.W.keepIn K (.ref f5) = true)
    (a6 : PySem.W.nsIn K mainGlobals "_law_row" = some (some (.ref f6))) (l6 : K.lookup f6 = some ⟨oc6, od6, .func (PySem.W.fnOf "_law_row" "_law_row" (defArgs s_L_row) (defBody s_L_row) (defScope s_L_row) .none kV6 dc6 pm6 an6 cd6 ct6), sl6⟩) (c6 : PySem.W.codeIn K cd6 "_law_row" = true) (k6 : PySem.W.keepIn K (.ref f6) = true)
    (a7 : PySem.W.nsIn K mainGlobals "_law_partner" = some (some (.ref f7))) (l7 : K.lookup f7 = some ⟨oc7, od7, .func (PySem.W.fnOf "_law_partner" "_law_partner" (defArgs s_L_partner) (defBody s_L_partner) (defScope s_L_partner) .none kV7 dc7 pm7 an7 cd7 ct7), sl7⟩) (c7 : PySem.W.codeIn K cd7 "_law_partner" = true) (k7 : PySem.W.keepIn K (.ref f7) = true)
    (a8 : PySem.W.nsIn K mainGlobals "_law_pairs" = some (some (.ref f8))) (l8 : K.lookup f8 = some ⟨oc8, od8, .func (PySem.W.fnOf "_law_pairs" "_law_pairs" (defArgs s_L_pairs) (defBody s_L_pairs) (defScope s_L_pairs) .none kV8 dc8 pm8 an8 cd8 ct8), sl8⟩) (c8 : PySem.W.codeIn K cd8 "_law_pairs" = true) (k8 : PySem.W.keepIn K (.ref f8) = true)
    (a9 : PySem.W.nsIn K mainGlobals "_law_times" = some (some (.ref f9))) (l9 : K.lookup f9 = some ⟨oc9, od9, .func (PySem.W.fnOf "_law_times" "_law_times" (defArgs s_L_times) (defBody s_L_times) (defScope s_L_times) .none kV9 dc9 pm9 an9 cd9 ct9), sl9⟩) (c9 : PySem.W.codeIn K cd9 "_law_times" = true) (k9 : PySem.W.keepIn K (.ref f9) = true)
    (a10 : PySem.W.nsIn K mainGlobals "_law_same" = some (some (.ref f10))) (l10 : K.lookup f10 = some ⟨oc10, od10, .func (PySem.W.fnOf "_law_same" "_law_same" (defArgs s_L_same) (defBody s_L_same) (defScope s_L_same) .none kV10 dc10 pm10 an10 cd10 ct10), sl10⟩) (c10 : PySem.W.codeIn K cd10 "_law_same" = true) (k10 : PySem.W.keepIn K (.ref f10) = true)
    (a11 : PySem.W.nsIn K mainGlobals "law" = some (some (.ref f11))) (l11 : K.lookup f11 = some ⟨oc11, od11, .func (PySem.W.fnOf "law" "law" (defArgs s_law) (defBody s_law) (defScope s_law) .none kV11 dc11 pm11 an11 cd11 ct11), sl11⟩) (c11 : PySem.W.codeIn K cd11 "law" = true) (k11 : PySem.W.keepIn K (.ref f11) = true)
    (z1 : PySem.W.nsIn K mainGlobals "len" = some none) (z2 : PySem.W.nsIn K mainGlobals "isinstance" = some none) (z3 : PySem.W.nsIn K mainGlobals "bool" = some none) (z4 : PySem.W.nsIn K mainGlobals "int" = some none) (z5 : PySem.W.nsIn K mainGlobals "tuple" = some none) (z6 : PySem.W.nsIn K mainGlobals "list" = some none) (z7 : PySem.W.nsIn K mainGlobals "range" = some none) (z8 : PySem.W.nsIn K mainGlobals "zip" = some none) (z9 : PySem.W.nsIn K mainGlobals "all" = some none) (z10 : PySem.W.nsIn K mainGlobals "max" = some none) (z11 : PySem.W.nsIn K mainGlobals "min" = some none) (z12 : PySem.W.nsIn K mainGlobals "reversed" = some none) (z13 : PySem.W.nsIn K mainGlobals "abs" = some none) (z14 : PySem.W.nsIn K mainGlobals "dict" = some none) (z15 : PySem.W.nsIn K mainGlobals "sorted" = some none) :
    ∃ fd : FuncData, (∀ (s : Shared) (v : Value), BindsTo s fd ⟨[v], []⟩ [("_law_script", v)]) ∧ ∀ base : Heap, K.In base → base.Ns mainGlobals mg → FnOk l.prog w K mg base CX0 4 fa fd ["_law_script"] (spLaw K) := by
  have e := hfa.symm.trans (PySem.W.mg_of X G a11)
  cases e
  have F1 := fun_mk (st := s_pairs) l1 c1 k1
  have b1 := F1.binds (ps := ["row"]) fun _ _ _ _ _ _ us hl => match us, hl with | [_], _ => rfl
  have F2 := fun_mk (st := s_depths) l2 c2 k2
  have b2 := F2.binds (ps := ["row"]) fun _ _ _ _ _ _ us hl => match us, hl with | [_], _ => rfl
  have F3 := fun_mk (st := s_L_cell_at) l3 c3 k3
  have b3 := F3.binds (ps := ["_law_script", "_law_k"]) fun _ _ _ _ _ _ us hl => match us, hl with | [_, _], _ => rfl
  have F4 := fun_mk (st := s_L_state) l4 c4 k4
  have b4 := F4.binds (ps := ["_law_script", "_law_k"]) fun _ _ _ _ _ _ us hl => match us, hl with | [_, _], _ => rfl
  have F5 := fun_mk (st := s_L_take) l5 c5 k5
  have b5 := F5.binds (ps := ["_law_state_here", "_law_many"]) fun _ _ _ _ _ _ us hl => match us, hl with | [_, _], _ => rfl
  have F6 := fun_mk (st := s_L_row) l6 c6 k6
  have b6 := F6.binds (ps := ["_law_state_here"]) fun _ _ _ _ _ _ us hl => match us, hl with | [_], _ => rfl
  have F7 := fun_mk (st := s_L_partner) l7 c7 k7
  have b7 := F7.binds (ps := ["_law_row_here", "_law_ball"]) fun _ _ _ _ _ _ us hl => match us, hl with | [_, _], _ => rfl
  have F8 := fun_mk (st := s_L_pairs) l8 c8 k8
  have b8 := F8.binds (ps := ["_law_row_here"]) fun _ _ _ _ _ _ us hl => match us, hl with | [_], _ => rfl
  have F9 := fun_mk (st := s_L_times) l9 c9 k9
  have b9 := F9.binds (ps := ["_law_some"]) fun _ _ _ _ _ _ us hl => match us, hl with | [_], _ => rfl
  have F10 := fun_mk (st := s_L_same) l10 c10 k10
  have b10 := F10.binds (ps := ["_law_found", "_law_due"]) fun _ _ _ _ _ _ us hl => match us, hl with | [_, _], _ => rfl
  have F11 := fun_mk (st := s_law) l11 c11 k11
  have nb0 : Nb mg := ⟨PySem.W.mg_none_of X G z1, PySem.W.mg_none_of X G z2, PySem.W.mg_none_of X G z3, PySem.W.mg_none_of X G z4, PySem.W.mg_none_of X G z5, PySem.W.mg_none_of X G z6, PySem.W.mg_none_of X G z7, PySem.W.mg_none_of X G z8, PySem.W.mg_none_of X G z9, PySem.W.mg_none_of X G z10, PySem.W.mg_none_of X G z11⟩
  have nb2 : Nb2 mg := ⟨nb0, PySem.W.mg_none_of X G z12, PySem.W.mg_none_of X G z13⟩
  have nb : Nb3 mg := ⟨nb2, PySem.W.mg_none_of X G z14, PySem.W.mg_none_of X G z15⟩
  refine ⟨PySem.W.fnOf "law" "law" (defArgs s_law) (defBody s_law) (defScope s_law) .none kV11 dc11 pm11 an11 cd11 ct11, fun s v => .of_eq rfl, fun base _ _ => ?_⟩
  have h_pairs : Has l.prog w K mg base 1 "pairs" ["row"] spPairs := ⟨f1, _, ok_pairs F1 nb , PySem.W.mg_of X G a1, k1, b1⟩
  have h_depths : Has l.prog w K mg base 2 "depths" ["row"] spDp := ⟨f2, _, ok_depths F2 nb h_pairs, PySem.W.mg_of X G a2, k2, b2⟩
  have h_L_cell_at : Has l.prog w K mg base 1 "_law_cell_at" ["_law_script", "_law_k"] (spCell K) := ⟨f3, _, ok_L_cell_at F3 nb0 , PySem.W.mg_of X G a3, k3, b3⟩
  have h_L_state : Has l.prog w K mg base 2 "_law_state" ["_law_script", "_law_k"] (spState K) := ⟨f4, _, ok_L_state F4 nb0 h_L_cell_at, PySem.W.mg_of X G a4, k4, b4⟩
  have h_L_take : Has l.prog w K mg base 1 "_law_take" ["_law_state_here", "_law_many"] (spTake K) := ⟨f5, _, ok_L_take F5 nb0 , PySem.W.mg_of X G a5, k5, b5⟩
  have h_L_row : Has l.prog w K mg base 2 "_law_row" ["_law_state_here"] spRw := ⟨f6, _, ok_L_row F6 nb0 h_L_take, PySem.W.mg_of X G a6, k6, b6⟩
  have h_L_partner : Has l.prog w K mg base 1 "_law_partner" ["_law_row_here", "_law_ball"] spPart := ⟨f7, _, ok_L_partner F7 nb , PySem.W.mg_of X G a7, k7, b7⟩
  have h_L_pairs : Has l.prog w K mg base 2 "_law_pairs" ["_law_row_here"] spLp := ⟨f8, _, ok_L_pairs F8 nb h_L_partner, PySem.W.mg_of X G a8, k8, b8⟩
  have h_L_times : Has l.prog w K mg base 1 "_law_times" ["_law_some"] spTm := ⟨f9, _, ok_L_times F9 nb , PySem.W.mg_of X G a9, k9, b9⟩
  have hs0 : Has l.prog w K mg base 0 "_law_same" ["_law_found", "_law_due"] (spSame 0) := ⟨f10, _, none_left, PySem.W.mg_of X G a10, k10, b10⟩
  have hs1 : Has l.prog w K mg base 1 "_law_same" ["_law_found", "_law_due"] (spSame 1) := ⟨f10, _, ok_L_same F10 nb2 hs0, PySem.W.mg_of X G a10, k10, b10⟩
  have h_L_same : Has l.prog w K mg base 2 "_law_same" ["_law_found", "_law_due"] (spSame 2) := ⟨f10, _, ok_L_same F10 nb2 hs1, PySem.W.mg_of X G a10, k10, b10⟩
  exact ok_law F11 nb h_L_state h_L_row h_L_same h_depths h_L_pairs h_L_times
theorem walk {l : PySem.W.OpenLaw} {q : Program} {loose : List Str} {XP : (Str → Option Value) → Heap → Prop} {YP : World → Heap → Prop} {d : DefRec} {K : Params → PySem.W.Frag} (hn : l.most = some 63) (hdf : d.params.defaults = [])
    (hY : ∀ (w : World) (h : Heap), YP w h → (K w.params).In h)
    (F : ∀ (w : World) (mg : Str → Option Value) (fa : Addr) (h : Heap), (K w.params).In h → h.Ns mainGlobals mg → mg d.name = some (.ref fa) →
      ∃ fd : FuncData, (∀ (s : Shared) (u : Value), BindsTo s fd ⟨[u], []⟩ [("_law_script", u)]) ∧ ∀ base : Heap, (K w.params).In base → base.Ns mainGlobals mg → FnOk l.prog w (K w.params) mg base CX0 4 fa fd ["_law_script"] (spLaw (K w.params))) :
    PySem.W.WalkO q loose XP YP l.row.toRowW d [] (fun f vs => PySem.call f vs) :=
  L2.walk_of (n := 63) (k := 4) (x := "_law_script") (CX := fun _ => CX0) (sp := fun w => spLaw (K w.params)) hn (by decide) hdf ⟨rfl, by decide, by decide⟩ hY F (fun _ _ a ns hl _ hS => ⟨a, ns, rfl, hS, hl, fun _ => rfl⟩) fun _ _ _ _ _ z => z
end K42
open PySem PySem.W PyProof.Rows
set_option maxRecDepth 100000 in
set_option maxHeartbeats 0 in
theorem PySem.Challenge.cw_boxballs_k42_depths_of_pairs_holds : PySem.Challenge.rw_boxballs_k42_depths_of_pairs.Holds := by
  w_on; o_law; k_head; (case hw => w_witness2)
  k_fill
  refine K42.walk (l := PySem.Challenge.rw_boxballs_k42_depths_of_pairs) rfl rfl (fun w h Y => PySem.W.kIn_of Y) ?F
  case F =>
    intro w mg fa h KX G hmg
    refine' K42.all_mk KX G hmg ?a1 ?l1 ?c1 ?k1 ?a2 ?l2 ?c2 ?k2 ?a3 ?l3 ?c3 ?k3 ?a4 ?l4 ?c4 ?k4 ?a5 ?l5 ?c5 ?k5 ?a6 ?l6 ?c6 ?k6 ?a7 ?l7 ?c7 ?k7 ?a8 ?l8 ?c8 ?k8 ?a9 ?l9 ?c9 ?k9 ?a10 ?l10 ?c10 ?k10 ?a11 ?l11 ?c11 ?k11 ?z1 ?z2 ?z3 ?z4 ?z5 ?z6 ?z7 ?z8 ?z9 ?z10 ?z11 ?z12 ?z13 ?z14 ?z15
    (case a1 => k_is); (case l1 => k_is); (case c1 => k_is); (case k1 => k_is)
    (case a2 => k_is); (case l2 => k_is); (case c2 => k_is); (case k2 => k_is)
    (case a3 => k_is); (case l3 => k_is); (case c3 => k_is); (case k3 => k_is)
    (case a4 => k_is); (case l4 => k_is); (case c4 => k_is); (case k4 => k_is)
    (case a5 => k_is); (case l5 => k_is); (case c5 => k_is); (case k5 => k_is)
    (case a6 => k_is); (case l6 => k_is); (case c6 => k_is); (case k6 => k_is)
    (case a7 => k_is); (case l7 => k_is); (case c7 => k_is); (case k7 => k_is)
    (case a8 => k_is); (case l8 => k_is); (case c8 => k_is); (case k8 => k_is)
    (case a9 => k_is); (case l9 => k_is); (case c9 => k_is); (case k9 => k_is)
    (case a10 => k_is); (case l10 => k_is); (case c10 => k_is); (case k10 => k_is)
    (case a11 => k_is); (case l11 => k_is); (case c11 => k_is); (case k11 => k_is)
    (case z1 => k_is)
    (case z2 => k_is)
    (case z3 => k_is)
    (case z4 => k_is)
    (case z5 => k_is)
    (case z6 => k_is)
    (case z7 => k_is)
    (case z8 => k_is)
    (case z9 => k_is)
    (case z10 => k_is)
    (case z11 => k_is)
    (case z12 => k_is)
    (case z13 => k_is)
    (case z14 => k_is)
    (case z15 => k_is)
